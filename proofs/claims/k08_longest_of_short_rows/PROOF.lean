import PyProof.Rows.All
import Wide.All
import OpenK.AllK
import Wide.FinOn
import Lean
import PyProof.EqAt
import PyProof.EqKinds
import PyProof.TupleCall
import PyProof.NeKinds
import KE.IntBitsLaws
import PyProof.FitsBits
import PySem.Challenge.RW_wavyrow_k08_longest_of_short_rows
set_option Elab.async false
set_option linter.all false
set_option maxRecDepth 100000
namespace L2
open List
open PySem PySem.Spec PyProof.Rows
section
abbrev Key := Sum Int Str
def keyIs : Key -> Value -> Bool
 | .inl k, v => Value.isInt k v
 | .inr x, v => Value.isStrOf x v
def keyH (w : World) : Key -> Int
 | .inl k => hashInt k
 | .inr x => hashStr w x
theorem keyIs_shape : ∀ {k : Key} {v : Value}, keyIs k v = true -> (∃ i t, k = Sum.inl i /\ v = Value.int i t) \/ (∃ x t, k = Sum.inr x /\ v = Value.str x t)
 | .inl i, v, h => by
  obtain ⟨t, e⟩ := Value.isInt_shape (k := i) (v := v) h
  exact .inl ⟨i, t, rfl, e⟩
 | .inr x, v, h => by
  obtain ⟨t, e⟩ := Value.isStrOf_shape (x := x) (v := v) h
  exact .inr ⟨x, t, rfl, e⟩
theorem keyIs_str (x : Str) (t : Tok) : keyIs (.inr x) (.str x t) = true := by simp [keyIs, Value.isStrOf]
theorem key_ll (a b : Int) : decide ((Sum.inl a : Key) = Sum.inl b) = (a == b) := by
 by_cases e : a = b
 ·subst e; simp
 ·have h : ¬ (Sum.inl a : Key) = Sum.inl b := fun q => e (Sum.inl.inj q)
  rw [decide_eq_false h]
  exact (beq_eq_false_iff_ne.mpr e).symm
theorem key_rr (a b : Str) : decide ((Sum.inr a : Key) = Sum.inr b) = decide (a = b) := by
 by_cases e : a = b
 ·subst e; simp
 ·have h : ¬ (Sum.inr a : Key) = Sum.inr b := fun q => e (Sum.inr.inj q)
  rw [decide_eq_false h, decide_eq_false e]
theorem key_lr (a : Int) (b : Str) : decide ((Sum.inl a : Key) = Sum.inr b) = false := decide_eq_false (fun q => nomatch q)
theorem key_rl (a : Str) (b : Int) : decide ((Sum.inr a : Key) = Sum.inl b) = false := decide_eq_false (fun q => nomatch q)
def mixKind (prog : Program) (w : World) : PySem.KeyKind prog w Key where
 is := keyIs
 hash := keyH w
 inj := fun v a b ha hb => by
  rcases keyIs_shape ha with ⟨i, t, rfl, rfl⟩ | ⟨x, t, rfl, rfl⟩
  ·rcases keyIs_shape hb with ⟨j, u, rfl, e⟩ | ⟨y, u, rfl, e⟩
   ·injection e with e1 _; rw [e1]
   ·exact nomatch e
  ·rcases keyIs_shape hb with ⟨j, u, rfl, e⟩ | ⟨y, u, rfl, e⟩
   ·exact nomatch e
   ·injection e with e1 _; rw [e1]
 byValue := fun k v h => by
  rcases keyIs_shape h with ⟨i, t, rfl, rfl⟩ | ⟨x, t, rfl, rfl⟩ <;> rfl
 pyHash := fun hv h => by
  rcases keyIs_shape hv with ⟨i, t, rfl, rfl⟩ | ⟨x, t, rfl, rfl⟩
  ·exact wpAny_pyHash_int h
  ·exact wpAny_pyHash_str h
 eqBool := fun hu hv h => by
  rcases keyIs_shape hu with ⟨i, t, rfl, rfl⟩ | ⟨x, t, rfl, rfl⟩
  ·rcases keyIs_shape hv with ⟨j, u, rfl, rfl⟩ | ⟨y, u, rfl, rfl⟩
   ·rw [key_ll] at h; exact wpAny_eqBool_int h
   ·rw [key_lr] at h; exact SeqAt.EqAt.int_str i t y u _ _ _ _ h
  ·rcases keyIs_shape hv with ⟨j, u, rfl, rfl⟩ | ⟨y, u, rfl, rfl⟩
   ·rw [key_rl] at h; exact SeqAt.EqAt.str_int x t j u _ _ _ _ h
   ·rw [key_rr] at h; exact wpAny_eqBool_str h
 «strs» := fun k x t v h => by
  rcases keyIs_shape h with ⟨i, u, rfl, e⟩ | ⟨y, u, rfl, e⟩
  ·exact nomatch e
  ·injection e with e1 _
   subst e1
   cases v <;> rfl
end
section
inductive V where
 | non | bl (b : Bool) | int (i : Int) | str (x : Str) | byt (b : Array UInt8) | flt (b : UInt64) | ref (a : Addr) | ty (n : String)
 deriving DecidableEq
def RelV : V -> Value -> Prop
 | .non, u => u = Value.none
 | .bl b, u => u = Value.bool b
 | .int i, u => ∃ t, u = Value.int i t
 | .str x, u => ∃ t, u = Value.str x t
 | .byt b, u => ∃ t, u = Value.bytes b t
 | .flt b, u => ∃ t, u = Value.float b t
 | .ref a, u => u = Value.ref a
 | .ty n, u => u = Value.type n
abbrev Vals : List V -> List Value -> Prop := Paired RelV
theorem Vals.length {xs : List V} {us : List Value} (r : Vals xs us) : xs.length = us.length := Paired.length r
theorem Vals.get : ∀ {xs : List V} {us : List Value} {i : Nat} {x : V}, Vals xs us -> xs[i]? = some x -> ∃ u, us[i]? = some u /\ RelV x u
 | _, _, _, _, .nil, e => by simp at e
 | _, _, 0, _, .cons r _, e => by simp at e; subst e; exact ⟨_, rfl, r⟩
 | _, _, i + 1, x, .cons _ t, e => by
  obtain ⟨u, h1, h2⟩ := Vals.get (i := i) (x := x) t (by simpa using e)
  exact ⟨u, by simpa using h1, h2⟩
theorem Vals.set {x : V} {u : Value} (r : RelV x u) : ∀ {xs : List V} {us : List Value} (i : Nat), Vals xs us -> Vals (xs.set i x) (us.set i u)
 | _, _, _, .nil => .nil
 | _, _, 0, .cons _ t => .cons r t
 | _, _, i + 1, .cons q t => .cons q (Vals.set r i t)
theorem Vals.append : ∀ {xs ys : List V} {us ws : List Value}, Vals xs us -> Vals ys ws -> Vals (xs ++ ys) (us ++ ws)
 | _, _, _, _, .nil, s => s
 | _, _, _, _, .cons r t, s => .cons r (Vals.append t s)
theorem Vals.take : ∀ {xs : List V} {us : List Value} (n : Nat), Vals xs us -> Vals (xs.take n) (us.take n)
 | _, _, 0, _ => .nil
 | _, _, _ + 1, .nil => .nil
 | _, _, n + 1, .cons r t => .cons r (Vals.take n t)
theorem Vals.drop : ∀ {xs : List V} {us : List Value} (n : Nat), Vals xs us -> Vals (xs.drop n) (us.drop n)
 | _, _, 0, r => r
 | _, _, _ + 1, .nil => .nil
 | _, _, n + 1, .cons _ t => Vals.drop n t
def RelO : Option V -> Option Value -> Prop
 | some v, some u => RelV v u
 | none, none => True
 | _, _ => False
def KV {κ : Type} : List (κ × V) -> List (κ × Value) -> Prop := Paired fun (p : κ × V) (q : κ × Value) => p.1 = q.1 /\ RelV p.2 q.2
def kV : Key -> V
 | .inl i => .int i
 | .inr x => .str x
inductive HO where
 | lst (xs : List V)
 | tup (xs : List V)
 | dK (kvs : List (Key × V)) | dT (kvs : List (List Key × V))
 | set (S : Int -> Bool) (n : Nat)
 | ins (C dx : Addr) (fs : List (Str × V))
 | own (x : Addr)
 | xd (fs : List (Str × V))
 | met (f x : Addr)
 | rng (lo hi : Int)
 | frz (o : Obj) (u : HO)
 | tbl (ps : Array Value)
 | ext (φ : Heap -> Prop)
abbrev Hp := Addr -> Option HO
def upd (H : Hp) (a : Addr) (o : HO) : Hp := fun b => if b = a then some o else H b
theorem upd_same {H : Hp} {a : Addr} {o : HO} : upd H a o a = some o := by unfold upd; rw [if_pos rfl]
theorem upd_ne {H : Hp} {a b : Addr} {o : HO} (h : b ≠ a) : upd H a o b = H b := by unfold upd; rw [if_neg h]
theorem ne_of_none {H : Hp} {a b : Addr} {o : HO} (h : H a = some o) (h' : H b = none) : a ≠ b := by
 intro e; subst e; rw [h] at h'; cases h'
section
variable (P : Program) (w : World)
def ObjOk (H : Hp) (h : Heap) (a : Addr) : HO -> Prop
 | .lst xs => xs.length <= sizeLine /\ ∃ (its : List Value) (n : Nat), Vals xs its /\ h.get? a = some { cls := .type "list", data := .seq its.toArray n }
 | .tup xs => xs.length <= sizeLine /\ ∃ its : List Value, Vals xs its /\ IsTup h a its.toArray
 | .dK kvs => kvs.length <= sizeLine /\ (a == sysModules) = false /\ ∃ vs, KV kvs vs /\ h.DictOf (mixKind P w) a vs
 | .dT kvs => kvs.length <= sizeLine /\ (a == sysModules) = false /\ ∃ xs : List (List Key × Addr × Value),
   Paired (fun (p : List Key × V) (q : List Key × Addr × Value) => p.1 = q.1 /\ H q.2.1 = some (.tup (p.1.map kV)) /\ RelV p.2 q.2.2) kvs xs /\
   ∃ o es ep, h.get? a = some o /\ o.ExactDict /\ o.data = .dict es ep /\ es.toList = xs.map (entryOfKey (tupleKind (mixKind P w))) /\ (xs.map (·.1)).Nodup
 | .set S n => h.SetOf (intKind P w) a S n
 | .ins C dx fs => H dx = some (.own a) /\ fs.length <= 1000 /\ dx ≠ a /\ h.get? a = some (W.instObj C dx) /\
   ∃ mA, h.Ns1 dx mA /\ (∀ f, RelO (fs.lookup f) (mA f)) /\ PySem.Within mA (fs.map (·.1))
 | .own _ => ∃ o, h.get? a = some o
 | .xd fs => ∃ mA, h.Ns1 a mA /\ ∀ f, RelO (fs.lookup f) (mA f)
 | .rng lo hi => ∃ t u v, h.get? a = some { cls := .type "range", data := .fields #[.int lo t, .int hi u, .int 1 v] }
 | .frz o u => h.get? a = some o /\ ObjOk H h a u
 | .tbl ps => h.get? a = some { cls := .none, data := .fields ps }
 | .met f x => h.get? a = some (W.methodObj (.ref f) (.ref x))
 | .ext φ => φ h /\ (∃ o, h.get? a = some o) /\ ∀ h1 h2 : Heap, φ h1 -> (∀ o, h1.get? a = some o -> h2.get? a = some o) -> φ h2
def HOk (H : Hp) (h : Heap) : Prop := ∀ a o, H a = some o -> ObjOk P w H h a o
end
section
variable {P : Program} {w : World} {H H' : Hp} {h h' : Heap} {a : Addr} {o : HO}
theorem ObjOk.lt (x : ObjOk P w H h a o) : a < h.objs.size := by
 cases o with
 | lst xs => obtain ⟨_, _, _, _, e⟩ := x; exact Heap.lt_size e
 | tup xs => obtain ⟨_, _, _, p⟩ := x; exact p.lt
 | dK kvs => obtain ⟨_, _, _, _, o, _, _, e, _⟩ := x; exact Heap.lt_size e
 | dT kvs => obtain ⟨_, _, _, _, o, _, _, e, _⟩ := x; exact Heap.lt_size e
 | set S n => obtain ⟨o, _, _, _, e, _⟩ := x; exact Heap.lt_size e
 | ins C dx fs => obtain ⟨_, _, _, e, _⟩ := x; exact Heap.lt_size e
 | own y => obtain ⟨_, e⟩ := x; exact Heap.lt_size e
 | xd fs => obtain ⟨_, ⟨_, _, _, e, _⟩, _⟩ := x; exact Heap.lt_size e
 | rng lo hi => obtain ⟨_, _, _, e⟩ := x; exact Heap.lt_size e
 | frz ob u => obtain ⟨e, _⟩ := x; exact Heap.lt_size e
 | tbl ps => exact Heap.lt_size (show h.get? a = some _ from x)
 | met f y => exact Heap.lt_size (show h.get? a = some _ from x)
 | ext φ => obtain ⟨_, ⟨_, e⟩, _⟩ := x; exact Heap.lt_size e
theorem Paired.mapP {α β : Type} {F G : α -> β -> Prop} : ∀ {l₁ : List α} {l₂ : List β}, Paired F l₁ l₂ -> (∀ a b, F a b -> G a b) -> Paired G l₁ l₂
 | _, _, .nil, _ => .nil
 | _, _, .cons r t, f => .cons (f _ _ r) (Paired.mapP t f)
theorem ObjOk.stay (x : ObjOk P w H h a o) (k : ∀ b u, (b = a \/ H b = some (.own a)) -> h.get? b = some u -> h'.get? b = some u)
  (ho : ∀ b, H b = some (.own a) -> H' b = some (.own a)) (ht : ∀ b xs, H b = some (.tup xs) -> H' b = some (.tup xs)) : ObjOk P w H' h' a o := by
 induction o with
 | lst xs => obtain ⟨z, its, n, r, e⟩ := x; exact ⟨z, its, n, r, k _ _ (.inl rfl) e⟩
 | tup xs => obtain ⟨z, its, r, ob, e, c⟩ := x; exact ⟨z, its, r, ob, k _ _ (.inl rfl) e, c⟩
 | dK kvs => obtain ⟨z, y, vs, r, ob, es, ep, e, c⟩ := x; exact ⟨z, y, vs, r, ob, es, ep, k _ _ (.inl rfl) e, c⟩
 | dT kvs =>
  obtain ⟨z, y, xs, r, ob, es, ep, e, c⟩ := x
  exact ⟨z, y, xs, Paired.mapP r fun p q z => ⟨z.1, ht _ _ z.2.1, z.2.2⟩, ob, es, ep, k _ _ (.inl rfl) e, c⟩
 | set S n => obtain ⟨ob, es, ep, t, e, c⟩ := x; exact ⟨ob, es, ep, t, k _ _ (.inl rfl) e, c⟩
 | ins C dx fs =>
  obtain ⟨d, z, ne, e, mA, ⟨od, es, ep, e2, c⟩, r⟩ := x
  exact ⟨ho _ d, z, ne, k _ _ (.inl rfl) e, mA, ⟨od, es, ep, k _ _ (.inr d) e2, c⟩, r⟩
 | own y => obtain ⟨ob, e⟩ := x; exact ⟨ob, k _ _ (.inl rfl) e⟩
 | xd fs => obtain ⟨mA, ⟨od, es, ep, e, c⟩, r⟩ := x; exact ⟨mA, ⟨od, es, ep, k _ _ (.inl rfl) e, c⟩, r⟩
 | rng lo hi => obtain ⟨t, u, v, e⟩ := x; exact ⟨t, u, v, k _ _ (.inl rfl) e⟩
 | frz ob u ih => obtain ⟨e, q⟩ := x; exact ⟨k _ _ (.inl rfl) e, ih q⟩
 | tbl ps =>
  have e : h.get? a = some { cls := .none, data := .fields ps } := x
  show h'.get? a = some { cls := .none, data := .fields ps }
  exact k a _ (.inl rfl) e
 | met f y =>
  have e : h.get? a = some (W.methodObj (.ref f) (.ref y)) := x
  show h'.get? a = some (W.methodObj (.ref f) (.ref y))
  exact k a _ (.inl rfl) e
 | ext φ => obtain ⟨p, ⟨o, e⟩, st⟩ := x; exact ⟨st _ _ p fun o q => k _ _ (.inl rfl) q, ⟨o, k _ _ (.inl rfl) e⟩, st⟩
theorem HOk.lt (x : HOk P w H h) (e : H a = some o) : a < h.objs.size := (x a o e).lt
theorem HOk.fresh (x : HOk P w H h) (e : h.objs.size <= a) : H a = none := by
 cases q : H a with
 | none => rfl
 | some u => exact absurd (Nat.lt_of_lt_of_le (x.lt q) e) (Nat.lt_irrefl _)
theorem HOk.kept (x : HOk P w H h) (k : ∀ b u, h.get? b = some u -> h'.get? b = some u) : HOk P w H h' := fun a o e =>
 (x a o e).stay (fun b u _ q => k b u q) (fun _ q => q) fun _ _ q => q
theorem HOk.laid (x : HOk P w H h) (k : ∀ b u, h.get? b = some u -> h'.get? b = some u) (hp : h.objs.size <= a) (new : ObjOk P w (upd H a o) h' a o) : HOk P w (upd H a o) h' := fun b u e => by
 have hn := x.fresh hp
 by_cases hb : b = a
 ·subst hb; rw [upd_same] at e; cases e; exact new
 ·rw [upd_ne hb] at e
  exact (x b u e).stay (fun c v _ q => k c v q) (fun c q => by rw [upd_ne (ne_of_none q hn)]; exact q) fun c xs q => by rw [upd_ne (ne_of_none q hn)]; exact q
end
def Rd (H : Hp) (a : Addr) (u : HO) : Prop := H a = some u \/ ∃ o, H a = some (.frz o u)
theorem Rd.of {H : Hp} {a : Addr} {u : HO} (h : H a = some u) : Rd H a u := .inl h
theorem Rd.ok {P : Program} {w : World} {H : Hp} {h : Heap} {a : Addr} {u : HO} (r : Rd H a u) (x : HOk P w H h) : ObjOk P w H h a u := by
 rcases r with r | ⟨o, r⟩
 ·exact x a u r
 ·obtain ⟨_, q⟩ := x a _ r
  exact q
def Mut : Option HO -> Prop
 | some (.lst _) => True
 | some (.dK _) => True
 | some (.dT _) => True
 | some (.set _ _) => True
 | some (.ins _ _ _) => True
 | some (.ext _) => True
 | _ => False
section
variable {P : Program} {w : World} {H : Hp} {h h' : Heap} {x e : Addr} {o' : HO}
theorem HOk.write (ok : HOk P w H h) (mu : Mut (H x)) (he : e = x \/ H e = some (.own x)) (k : ∀ b u, b ≠ e -> h.get? b = some u -> h'.get? b = some u) (heo : ∃ u, h'.get? e = some u)
  (new : ObjOk P w (upd H x o') h' x o') : HOk P w (upd H x o') h' := fun b u q => by
 have nown : ∀ c y, H c = some (.own y) -> c ≠ x := fun c y r z => by subst z; rw [r] at mu; exact mu
 have ntup : ∀ c xs, H c = some (.tup xs) -> c ≠ x := fun c xs r z => by subst z; rw [r] at mu; exact mu
 by_cases hb : b = x
 ·subst hb; rw [upd_same] at q; cases q; exact new
 ·rw [upd_ne hb] at q
  by_cases hbe : b = e
  ·have q' : H b = some (.own x) := by
    rcases he with z | z
    ·exact absurd (hbe.trans z) hb
    ·rw [hbe]; exact z
   rw [q] at q'; cases q'
   obtain ⟨v, hv⟩ := heo
   exact ⟨v, by rw [hbe]; exact hv⟩
  ·refine (ok b u q).stay (fun c v hc r => k c v ?_ r) (fun c r => by rw [upd_ne (nown c b r)]; exact r) fun c xs r => by rw [upd_ne (ntup c xs r)]; exact r
   rcases hc with rfl | hc
   ·exact hbe
   ·rintro rfl
    rcases he with z | z
    ·exact nown c b hc z
    ·rw [hc] at z; cases z; exact hb rfl
end
structure Un (fs ex : List Addr) (H H' : Hp) (h h' : Heap) : Prop where
 keep : ∀ b o, h.get? b = some o -> H b = none -> b ∉ fs -> b ∉ ex -> h'.get? b = some o
 slot : ∀ b o, h.get? b = some o -> H b = none -> b ∈ fs -> b ∉ ex -> ∃ sl, h'.get? b = some { o with slots := sl }
 free : ∀ b o, h.get? b = some o -> H b = none -> b ∉ ex -> H' b = none
 there : ∀ b o, h.get? b = some o -> b ∉ ex -> ∃ o', h'.get? b = some o'
 tups : ∀ b xs, H b = some (.tup xs) -> H' b = some (.tup xs)
 frzs : ∀ b o u, H b = some (.frz o u) -> H' b = some (.frz o u)
 tbls : ∀ b ps, H b = some (.tbl ps) -> ∃ more, H' b = some (.tbl (ps ++ more))
section
variable {fs fs' ex ex' : List Addr} {H H1 H2 : Hp} {h h1 h2 h' : Heap} {a x e : Addr} {o : HO}
theorem Un.any (u : Un fs ex H H1 h h1) {b : Addr} {ob : Obj} (q : h.get? b = some ob) (n : H b = none) (hx : b ∉ ex) : ∃ sl, h1.get? b = some { ob with slots := sl } := by
 by_cases hb : b ∈ fs
 ·exact u.slot b ob q n hb hx
 ·exact ⟨ob.slots, u.keep b ob q n hb hx⟩
theorem Un.trans (a : Un fs ex H H1 h h1) (b : Un fs ex H1 H2 h1 h2) : Un fs ex H H2 h h2 where
 keep := fun c ob q n hc hx => b.keep c ob (a.keep c ob q n hc hx) (a.free c ob q n hx) hc hx
 slot := fun c ob q n hc hx => by
  obtain ⟨sl, e1⟩ := a.slot c ob q n hc hx
  obtain ⟨sl', e2⟩ := b.slot c _ e1 (a.free c ob q n hx) hc hx
  exact ⟨sl', e2⟩
 free := fun c ob q n hx => by
  obtain ⟨o', e1⟩ := a.there c ob q hx
  exact b.free c o' e1 (a.free c ob q n hx) hx
 there := fun c ob q hx => by
  obtain ⟨o', e1⟩ := a.there c ob q hx
  exact b.there c o' e1 hx
 tups := fun c xs q => b.tups c xs (a.tups c xs q)
 frzs := fun c ob xs q => b.frzs c ob xs (a.frzs c ob xs q)
 tbls := fun c ps q => by
  obtain ⟨m1, e1⟩ := a.tbls c ps q
  obtain ⟨m2, e2⟩ := b.tbls c _ e1
  exact ⟨m1 ++ m2, by rw [e2, Array.append_assoc]⟩
theorem Un.kept (k : ∀ b u, h.get? b = some u -> h'.get? b = some u) : Un fs ex H H h h' :=
 ⟨fun b ob q _ _ _ => k b ob q, fun b ob q _ _ _ => ⟨ob.slots, k b ob q⟩, fun _ _ _ n _ => n, fun b ob q _ => ⟨ob, k b ob q⟩, fun _ _ q => q, fun _ _ _ q => q, fun _ ps q => ⟨#[], by rw [q]; simp⟩⟩
theorem Un.refl : Un fs ex H H h h := Un.kept fun _ _ q => q
theorem Un.laid (k : ∀ b u, h.get? b = some u -> h'.get? b = some u) (hp : h.objs.size <= a) (hn : H a = none) : Un fs ex H (upd H a o) h h' where
 keep := fun b u q _ _ _ => k b u q
 slot := fun b u q _ _ _ => ⟨u.slots, k b u q⟩
 free := fun b u q n _ => by rw [upd_ne (Nat.ne_of_lt (Nat.lt_of_lt_of_le (Heap.lt_size q) hp))]; exact n
 there := fun b u q _ => ⟨u, k b u q⟩
 tups := fun b xs q => by rw [upd_ne (ne_of_none q hn)]; exact q
 frzs := fun b u xs q => by rw [upd_ne (ne_of_none q hn)]; exact q
 tbls := fun b ps q => ⟨#[], by rw [upd_ne (ne_of_none q hn), q]; simp⟩
theorem Un.write (mu : Mut (H x)) (he : e = x \/ H e = some (.own x)) (k : ∀ b u, b ≠ e -> h.get? b = some u -> h'.get? b = some u) (heo : ∃ u, h'.get? e = some u) : Un fs ex H (upd H x o) h h' := by
 have hx : ∀ b, H b = none -> b ≠ x := fun b n z => by subst z; rw [n] at mu; exact mu
 have hb : ∀ b, H b = none -> b ≠ e := fun b n z => by
  subst z
  rcases he with r | r
  ·exact hx b n r
  ·rw [n] at r; cases r
 have hm : ∀ b u, H b = some u -> ¬ Mut (some u) -> b ≠ x := fun b u q nm z => by subst z; rw [q] at mu; exact nm mu
 refine ⟨fun b u q n _ _ => k b u (hb b n) q, fun b u q n _ _ => ⟨u.slots, k b u (hb b n) q⟩, fun b u q n _ => by rw [upd_ne (hx b n)]; exact n, fun b u q _ => ?_,
  fun b xs q => by rw [upd_ne (hm b _ q fun z => z)]; exact q, fun b u xs q => by rw [upd_ne (hm b _ q fun z => z)]; exact q, fun b ps q => ⟨#[], by rw [upd_ne (hm b _ q fun z => z), q]; simp⟩⟩
 by_cases hbe : b = e
 ·subst hbe; exact heo
 ·exact ⟨u, k b u hbe q⟩
theorem Un.mono (u : Un fs ex H H1 h h1) (hs : ∀ b ∈ fs, b ∈ fs') (hx : ∀ b ∈ ex, b ∈ ex') : Un fs' ex' H H1 h h1 :=
 ⟨fun b ob q n hb he => u.keep b ob q n (fun z => hb (hs b z)) fun z => he (hx b z), fun _ _ q n _ he => u.any q n fun z => he (hx _ z), fun b ob q n he => u.free b ob q n fun z => he (hx b z), fun b ob q he => u.there b ob q fun z => he (hx b z), u.tups, u.frzs, u.tbls⟩
end
def trk (h : Heap) (H : Hp) : List Addr := (List.range h.objs.size).filter fun a => (H a).isSome
def hidT (h : Heap) (H : Hp) : Heap := W.hideAll h (trk h H)
theorem hidT_size (h : Heap) (H : Hp) : (hidT h H).objs.size = h.objs.size := W.hideAll_size _ _
theorem hidT_get {h : Heap} {H : Hp} {b : Addr} {o : Obj} (e : h.get? b = some o) (n : H b = none) : (hidT h H).get? b = some o :=
 W.hideAll_get _ e fun hm => by
  have q : (H b).isSome = true := (List.mem_filter.mp hm).2
  rw [n] at q; simp at q
theorem of_hidT {h : Heap} {H : Hp} {b : Addr} {o : Obj} (e : (hidT h H).get? b = some o) : h.get? b = some o /\ H b = none := by
 have e' : h.get? b = some o := W.of_hideAll (trk h H) e
 refine ⟨e', ?_⟩
 cases q : H b with
 | none => rfl
 | some x =>
  have hm : b ∈ trk h H := List.mem_filter.mpr ⟨List.mem_range.mpr (Heap.lt_size e'), by simp [q]⟩
  have z : (hidT h H).get? b = none := W.hideAll_none (trk h H) hm
  rw [z] at e; cases e
def allNews (g h : Heap) (L : Addr) : List (Addr × Obj) := (List.range h.objs.size).filterMap fun a => if a = L \/ (g.get? a).isSome = true then none else (h.get? a).map fun o => (a, o)
def rest (g h : Heap) (L d : Addr) : List (Addr × Obj) := (allNews g h L).filter fun p => decide (p.1 ≠ d)
end
section
structure Mod (K : W.Frag) (mg : Str -> Option Value) (base : Heap) : Prop where
 kin : K.In base
 glob : base.Ns mainGlobals mg
 blt : ∃ mb, base.Ns builtinsNs mb /\ ∀ x : Str, x ≠ "__name__" -> mb x = bootBuiltins x
 nolimit : base.NoLimit
structure Cx where
 prog : Program
 w : World
 K : W.Frag
 mg : Str -> Option Value
 base : Heap
 A : Around
 N : List Str
 s₀ : Shared
 H₀ : Hp
 env : Env
 outer : List Env
 stack : List Env
 ex : List Addr
 fn : Str -> Bool
 calm : Bool
 pn : List (Addr × Obj)
 xe : Value -> Shared -> Prop
def frs (l : List Env) : List Addr := l.filterMap (·.frame)
abbrev Cx.fs (X : Cx) : List Addr := frs X.outer
def Vis (sc : Scope) (x : Str) : Prop := sc.names.lookup x = some .local \/ sc.names.lookup x = some .cell \/ sc.names.lookup x = some .free
def Loc (sc : Scope) (x : Str) : Prop := sc.names.lookup x = some .local \/ sc.names.lookup x = some .cell
def Look (env : Env) (h : Heap) (m : Str -> Option Value) (x : Str) (u : Value) : Prop :=
 (env.kindOf x = some .local /\ m x = some u) \/ ((env.kindOf x = some .cell \/ env.kindOf x = some .free) /\ ∃ c, env.cells.lookup x = some c /\ h.IsCell c (some u))
structure Cx.Ok (X : Cx) : Prop where
 mod : Mod X.K X.mg X.base
 kind : X.env.scope.kind = .function
 glob : X.env.globals = mainGlobals
 blt : X.env.builtins = builtinsNs
 above : X.s₀.heap.objs.size <= X.env.locals
 inj : ∀ x y c, X.env.cells.lookup x = some c -> X.env.cells.lookup y = some c -> x = y
 has : ∀ x, (X.env.kindOf x = some .cell \/ X.env.kindOf x = some .free) -> ∃ c, X.env.cells.lookup x = some c
 cab : ∀ x c, X.fn x = true -> X.env.cells.lookup x = some c -> X.s₀.heap.objs.size <= c
 hd : X.calm = true -> X.A.handled = none
 frames : X.A.frames = some X.stack
 stk : X.stack = X.outer \/ (X.stack = X.env :: X.outer /\ X.env.frame = some X.env.locals)
 exf : ∀ b ∈ X.ex, b ≠ X.env.locals /\ ∀ x c, X.env.cells.lookup x = some c -> c ≠ b
 bs : ∀ b o, X.base.get? b = some o -> X.s₀.heap.get? b = some o /\ X.H₀ b = none
 bsz : X.base.objs.size <= X.s₀.heap.objs.size
 noex : ∀ b o, X.base.get? b = some o -> b ∉ X.ex
 exfs : ∀ b ∈ X.ex, b ∉ X.fs
 funs : X.s₀.heap.FunFrames X.base X.outer
 frf : ∀ b ∈ X.fs, X.H₀ b = none
structure Inv (X : Cx) (pins : List (Addr × Obj)) (σ : List (Option V)) (H : Hp) (s : Shared) : Prop where
 ok : X.Ok
 os : s.os = X.s₀.os
 bare : AllBare s.gens
 base : Un X.fs X.ex X.H₀ H X.s₀.heap s.heap
 loc : ∃ m, s.heap.Ns X.env.locals m /\ ∀ (i : Nat) (x : Str) (v : V), X.N[i]? = some x -> σ[i]? = some (some v) -> Vis X.env.scope x -> ∃ u, RelV v u /\ Look X.env s.heap m x u
 cell : ∀ x c, X.env.cells.lookup x = some c -> ∃ v, s.heap.IsCell c v
 free : H X.env.locals = none
 freeC : ∀ x c, X.env.cells.lookup x = some c -> H c = none
 pin : ∀ p ∈ X.pn ++ pins, s.heap.get? p.1 = some p.2 /\ H p.1 = none /\ p.1 ≠ X.env.locals /\ p.1 ∉ X.fs /\ ∀ v, p.2.data ≠ .cell v
 hok : HOk X.prog X.w H s.heap
 len : σ.length = X.N.length
section
variable {X : Cx} {pins : List (Addr × Obj)} {σ : List (Option V)} {H H' : Hp} {s : Shared} {h' : Heap}
theorem Cx.Ok.nofr (ok : X.Ok) {b : Addr} {o : Obj} (e : X.base.get? b = some o) : b ∉ X.fs := fun hb => by
 have := (ok.funs.mem hb).1
 rw [e] at this; cases this
theorem Inv.bs (I : Inv X pins σ H s) : ∀ b o, X.base.get? b = some o -> s.heap.get? b = some o /\ H b = none := fun b o e =>
 ⟨I.base.keep b o (I.ok.bs b o e).1 (I.ok.bs b o e).2 (I.ok.nofr e) (I.ok.noex b o e), I.base.free b o (I.ok.bs b o e).1 (I.ok.bs b o e).2 (I.ok.noex b o e)⟩
theorem Inv.bk (I : Inv X pins σ H s) : ∀ b o, X.base.get? b = some o -> s.heap.get? b = some o := fun b o e => (I.bs b o e).1
theorem Inv.mod (I : Inv X pins σ H s) : Mod X.K X.mg X.base := I.ok.mod
theorem Inv.kIn (I : Inv X pins σ H s) : X.K.In s.heap := I.ok.mod.kin.keeps I.bk
theorem Inv.nolimit (I : Inv X pins σ H s) : s.heap.NoLimit := I.ok.mod.nolimit.keeps I.bk
theorem Inv.fr (I : Inv X pins σ H s) : ∃ m, Fr X.base X.env.locals s.heap m :=
 let ⟨m, hn, _⟩ := I.loc
 ⟨m, hn, I.bk, Nat.le_trans I.ok.bsz I.ok.above⟩
theorem Inv.lt (I : Inv X pins σ H s) : X.env.locals < s.heap.objs.size := let ⟨_, hn, _⟩ := I.loc; hn.lt
theorem Inv.sz (I : Inv X pins σ H s) : X.s₀.heap.objs.size <= s.heap.objs.size := Nat.le_trans I.ok.above (Nat.le_of_lt I.lt)
theorem Inv.nofs (I : Inv X pins σ H s) {a : Addr} (h : s.heap.objs.size <= a) : a ∉ X.fs := fun hb => by
 obtain ⟨_, o, ho, _⟩ := I.ok.funs.mem hb
 exact absurd (Nat.lt_of_lt_of_le (Heap.lt_size ho) (Nat.le_trans I.sz h)) (Nat.lt_irrefl _)
theorem Inv.cne (I : Inv X pins σ H s) : ∀ x c, X.env.cells.lookup x = some c -> c ≠ X.env.locals := fun x c e z => by
 obtain ⟨v, o, ho, hd⟩ := I.cell x c e
 obtain ⟨m, ⟨o', es, ep, ho', hd', _⟩, _⟩ := I.loc
 rw [z, ho'] at ho; cases ho; rw [hd'] at hd; cases hd
theorem Inv.funs (I : Inv X pins σ H s) : s.heap.FunFrames X.base X.outer := by
 have all : ∀ (l : List Env), (∀ b ∈ frs l, b ∈ X.fs) -> X.s₀.heap.FunFrames X.base l -> s.heap.FunFrames X.base l := by
  intro l
  induction l with
  | nil => intro _ _; trivial
  | cons env r ih =>
   intro hs hl
   obtain ⟨hk, ⟨L, o, hf, hn, ho, hd⟩, hr⟩ := hl
   have hL : L ∈ X.fs := hs L (by unfold frs; rw [filterMap_cons, hf]; exact mem_cons_self)
   obtain ⟨sl, e⟩ := I.base.slot L o ho (I.ok.frf L hL) hL fun z => I.ok.exfs L z hL
   exact ⟨hk, ⟨L, _, hf, hn, e, hd⟩, ih (fun b hb => hs b (by unfold frs; rw [filterMap_cons, hf]; exact mem_cons_of_mem _ hb)) hr⟩
 exact all X.outer (fun _ hb => hb) I.ok.funs
theorem Inv.stack (I : Inv X pins σ H s) : s.heap.FunFrames X.base X.stack := by
 rcases I.ok.stk with e | ⟨e, hf⟩
 ·rw [e]; exact I.funs
 ·rw [e]
  obtain ⟨m, hn, _⟩ := I.loc
  refine .cons (by rw [I.ok.kind]; decide) hf hn ?_ I.funs
  exact Heap.get?_none_of_le (Nat.le_trans I.ok.bsz I.ok.above)
theorem Inv.stkSub (I : Inv X pins σ H s) : ∀ b ∈ frs X.stack, b ∈ X.env.locals :: X.fs := fun b hb => by
 rcases I.ok.stk with e | ⟨e, hf⟩
 ·rw [e] at hb; exact mem_cons_of_mem _ hb
 ·rw [e] at hb
  unfold frs at hb
  rw [filterMap_cons, hf] at hb
  exact hb
theorem Inv.stkFree (I : Inv X pins σ H s) : ∀ b ∈ frs X.stack, H b = none := fun b hb => by
 rcases List.mem_cons.mp (I.stkSub b hb) with e | hb
 ·rw [e]; exact I.free
 ·obtain ⟨_, o, ho, _⟩ := I.ok.funs.mem hb
  exact I.base.free b o ho (I.ok.frf b hb) fun z => I.ok.exfs b z hb
theorem Inv.step {g' : Array GenState} {t' : Nat} {d' : Drawn} {ch : List Addr} (I : Inv X pins σ H s)
  (hch : ∀ b ∈ ch, (b ∈ X.ex \/ X.s₀.heap.objs.size <= b) /\ b ≠ X.env.locals /\ (∀ x c, X.env.cells.lookup x = some c -> c ≠ b) /\ ∀ p ∈ X.pn ++ pins, p.1 ≠ b)
  (keep : ∀ b o, b ≠ X.env.locals -> b ∉ X.fs -> b ∉ ch -> s.heap.get? b = some o -> H b = none -> h'.get? b = some o)
  (slot : ∀ b o, b ≠ X.env.locals -> b ∈ X.fs -> b ∉ ch -> s.heap.get? b = some o -> H b = none -> ∃ sl, h'.get? b = some { o with slots := sl }) (free : ∀ b o, b ∉ ch -> s.heap.get? b = some o -> H b = none -> H' b = none)
  (there : ∀ b o, b ∉ ch -> s.heap.get? b = some o -> ∃ o', h'.get? b = some o')
  (tups : ∀ b xs, H b = some (.tup xs) -> H' b = some (.tup xs)) (frzs : ∀ b o u, H b = some (.frz o u) -> H' b = some (.frz o u)) (tbls : ∀ b ps, H b = some (.tbl ps) -> ∃ more, H' b = some (.tbl (ps ++ more)))
  (ns : ∀ m, s.heap.Ns X.env.locals m -> h'.Ns X.env.locals m) (hok : HOk X.prog X.w H' h') (hg : AllBare g') :
  Inv X pins σ H' { s with heap := h', gens := g', drawn := d', toks := t' } := by
 have neL : ∀ b o, X.s₀.heap.get? b = some o -> b ≠ X.env.locals := fun b o e => Nat.ne_of_lt (Nat.lt_of_lt_of_le (Heap.lt_size e) I.ok.above)
 have neC : ∀ b o, X.s₀.heap.get? b = some o -> b ∉ X.ex -> b ∉ ch := fun b o e hx hb => by
  rcases (hch b hb).1 with z | z
  ·exact hx z
  ·exact absurd (Nat.lt_of_lt_of_le (Heap.lt_size e) z) (Nat.lt_irrefl _)
 have cellK : ∀ x c, X.env.cells.lookup x = some c -> ∀ v, s.heap.IsCell c v -> h'.IsCell c v := fun x c e v hpat => by
  obtain ⟨o, ho, hd⟩ := hpat
  have nch : c ∉ ch := fun z => (hch c z).2.2.1 x c e rfl
  by_cases hc : c ∈ X.fs
  ·obtain ⟨sl, q⟩ := slot c o (I.cne x c e) hc nch ho (I.freeC x c e)
   exact ⟨_, q, hd⟩
  ·exact ⟨o, keep c o (I.cne x c e) hc nch ho (I.freeC x c e), hd⟩
 refine ⟨I.ok, I.os, hg, ⟨fun b o e n hb hx => ?_, fun b o e n hb hx => ?_, fun b o e n hx => ?_, fun b o e hx => ?_, fun b xs e => tups b xs (I.base.tups b xs e), fun b o xs e => frzs b o xs (I.base.frzs b o xs e), fun b ps e => ?_⟩, ?_, fun x c e => ?_, ?_, fun x c e => ?_, fun p hp => ?_, hok, I.len⟩
 ·exact keep b o (neL b o e) hb (neC b o e hx) (I.base.keep b o e n hb hx) (I.base.free b o e n hx)
 ·obtain ⟨sl, e1⟩ := I.base.slot b o e n hb hx
  obtain ⟨sl', e2⟩ := slot b _ (neL b o e) hb (neC b o e hx) e1 (I.base.free b o e n hx)
  exact ⟨sl', e2⟩
 ·obtain ⟨o', e1⟩ := I.base.there b o e hx
  exact free b o' (neC b o e hx) e1 (I.base.free b o e n hx)
 ·obtain ⟨o', e1⟩ := I.base.there b o e hx
  exact there b o' (neC b o e hx) e1
 ·obtain ⟨m1, e1⟩ := I.base.tbls b ps e
  obtain ⟨m2, e2⟩ := tbls b _ e1
  exact ⟨m1 ++ m2, by rw [e2, Array.append_assoc]⟩
 ·obtain ⟨m, hn, hl⟩ := I.loc
  refine ⟨m, ns m hn, fun i x v e1 e2 e3 => ?_⟩
  obtain ⟨u, r, l⟩ := hl i x v e1 e2 e3
  refine ⟨u, r, ?_⟩
  rcases l with l | ⟨k, c, e, z⟩
  ·exact .inl l
  ·exact .inr ⟨k, c, e, cellK x c e _ z⟩
 ·obtain ⟨v, z⟩ := I.cell x c e
  exact ⟨v, cellK x c e v z⟩
 ·obtain ⟨m, ⟨o, _, _, ho, _⟩, _⟩ := I.loc
  exact free _ o (fun z => (hch _ z).2.1 rfl) ho I.free
 ·obtain ⟨v, o, ho, hd⟩ := I.cell x c e
  exact free c o (fun z => (hch c z).2.2.1 x c e rfl) ho (I.freeC x c e)
 ·obtain ⟨e, n, ne, nf, d⟩ := I.pin p hp
  have nch : p.1 ∉ ch := fun z => (hch p.1 z).2.2.2 p hp rfl
  exact ⟨keep p.1 p.2 ne nf nch e n, free p.1 p.2 nch e n, ne, nf, d⟩
theorem Inv.un {t' : Nat} (I : Inv X pins σ H s) (u : Un X.fs [] H H' s.heap h') (hok : HOk X.prog X.w H' h') : Inv X pins σ H' { s with heap := h', toks := t' } := by
 obtain ⟨m, ⟨o, es, ep, ho, r⟩, _⟩ := id I.loc
 obtain ⟨sl, hL⟩ := u.any ho I.free (by simp)
 exact I.step (g' := s.gens) (d' := s.drawn) (ch := []) (fun _ z => nomatch z) (fun b o _ hb _ e n => u.keep b o e n hb (by simp)) (fun b o _ hb _ e n => u.slot b o e n hb (by simp)) (fun b o _ e n => u.free b o e n (by simp)) (fun b o _ e => u.there b o e (by simp)) u.tups u.frzs u.tbls (fun m' hm => by
  obtain ⟨o', es', ep', ho', r'⟩ := hm
  rw [ho] at ho'; cases ho'
  exact ⟨_, es', ep', hL, r'⟩) hok I.bare
theorem Inv.call {g' : Array GenState} {t' : Nat} {d' : Drawn} {ch : List Addr} (I : Inv X pins σ H s) (u : Un (frs X.stack) ch H H' s.heap h') (hok : HOk X.prog X.w H' h') (hg : AllBare g')
  (hch : ∀ b ∈ ch, (b ∈ X.ex \/ X.s₀.heap.objs.size <= b) /\ b ≠ X.env.locals /\ (∀ x c, X.env.cells.lookup x = some c -> c ≠ b) /\ ∀ p ∈ X.pn ++ pins, p.1 ≠ b) :
  Inv X pins σ H' { s with heap := h', gens := g', drawn := d', toks := t' } := by
 obtain ⟨m, ⟨o, es, ep, ho, r⟩, _⟩ := id I.loc
 obtain ⟨sl, hL⟩ := u.any ho I.free fun z => (hch _ z).2.1 rfl
 exact I.step (ch := ch) hch (fun b o hL hb hc e n => u.keep b o e n (fun z => (List.mem_cons.mp (I.stkSub b z)).elim hL hb) hc) (fun b o _ _ hc e n => u.any e n hc) (fun b o hc e n => u.free b o e n hc) (fun b o hc e => u.there b o e hc) u.tups u.frzs u.tbls (fun m' hm => by
  obtain ⟨o', es', ep', ho', r'⟩ := hm
  rw [ho] at ho'; cases ho'
  exact ⟨_, es', ep', hL, r'⟩) hok hg
theorem Inv.turned {t' : Nat} {it : Addr} (I : Inv X pins σ H s) (k : ∀ b o, b ≠ it -> s.heap.get? b = some o -> h'.get? b = some o) (hn : H it = none) (hL : it ≠ X.env.locals)
  (h1 : it ∈ X.ex \/ X.s₀.heap.objs.size <= it) (h2 : ∀ x c, X.env.cells.lookup x = some c -> c ≠ it) (h3 : ∀ p ∈ X.pn ++ pins, p.1 ≠ it) : Inv X pins σ H { s with heap := h', toks := t' } := by
 have nit : ∀ b u, H b = some u -> b ≠ it := fun b u e z => by rw [z, hn] at e; cases e
 refine I.step (g' := s.gens) (d' := s.drawn) (ch := [it]) (fun b hb => ?_) (fun b o _ _ hc e _ => k b o (fun z => hc (by simp [z])) e) (fun b o _ _ hc e _ => ⟨o.slots, k b o (fun z => hc (by simp [z])) e⟩) (fun _ _ _ _ n => n)
  (fun b o hc e => ⟨o, k b o (fun z => hc (by simp [z])) e⟩) (fun _ _ e => e) (fun _ _ _ e => e) (fun b ps e => ⟨#[], by rw [e]; simp⟩) (fun m hm => ?_) (fun b u e => ?_) I.bare
 ·have e : b = it := by simpa using hb
  subst e
  exact ⟨h1, hL, h2, h3⟩
 ·obtain ⟨o, es, ep, ho, r⟩ := hm
  exact ⟨o, es, ep, k _ o (Ne.symm hL) ho, r⟩
 ·refine (I.hok b u e).stay (fun c v hc q => k c v ?_ q) (fun _ q => q) fun _ _ q => q
  rcases hc with z | z
  ·rw [z]; exact nit b u e
  ·exact nit c _ z
theorem Inv.tok (I : Inv X pins σ H s) (t : Nat) : Inv X pins σ H { s with toks := t } := I.un (h' := s.heap) (t' := t) Un.refl I.hok
theorem Inv.kept {t' : Nat} (I : Inv X pins σ H s) (k : ∀ b u, s.heap.get? b = some u -> h'.get? b = some u) : Inv X pins σ H { s with heap := h', toks := t' } := I.un (Un.kept k) (I.hok.kept k)
theorem Inv.laid {a : Addr} {o : HO} {t' : Nat} (I : Inv X pins σ H s) (k : ∀ b u, s.heap.get? b = some u -> h'.get? b = some u) (hp : s.heap.objs.size <= a) (new : ObjOk X.prog X.w (upd H a o) h' a o) :
  Inv X pins σ (upd H a o) { s with heap := h', toks := t' } := I.un (Un.laid k hp (I.hok.fresh hp)) (I.hok.laid k hp new)
theorem Inv.write {x e : Addr} {o : HO} {t' : Nat} (I : Inv X pins σ H s) (mu : Mut (H x)) (he : e = x \/ H e = some (.own x)) (k : ∀ b u, b ≠ e -> s.heap.get? b = some u -> h'.get? b = some u) (heo : ∃ u, h'.get? e = some u)
  (new : ObjOk X.prog X.w (upd H x o) h' x o) : Inv X pins σ (upd H x o) { s with heap := h', toks := t' } := I.un (Un.write mu he k heo) (I.hok.write mu he k heo new)
theorem Inv.pins_of {pins' : List (Addr × Obj)} (I : Inv X pins σ H s) (h : ∀ p ∈ pins', s.heap.get? p.1 = some p.2 /\ H p.1 = none /\ p.1 ≠ X.env.locals /\ p.1 ∉ X.fs /\ ∀ v, p.2.data ≠ .cell v) : Inv X pins' σ H s :=
 ⟨I.ok, I.os, I.bare, I.base, I.loc, I.cell, I.free, I.freeC, fun p hp => (List.mem_append.mp hp).elim (fun z => I.pin p (mem_append_left _ z)) (h p), I.hok, I.len⟩
theorem nodup_ix {N : List Str} (hN : N.Nodup) {i j : Nat} {x : Str} (a : N[i]? = some x) (b : N[j]? = some x) : i = j := by
 obtain ⟨h1, e1⟩ := List.getElem?_eq_some_iff.mp a
 obtain ⟨h2, e2⟩ := List.getElem?_eq_some_iff.mp b
 exact (getElem_inj hN).mp (e1.trans e2.symm)
theorem store_ok2 {M : Model} {A : Around} {E : Value -> Shared -> Prop} {i : Nat} {x : Str} {v : V} {u : Value} {Q : Unit -> Shared -> Prop} (I : Inv X pins σ H s) (hN : X.N.Nodup) (hi : X.N[i]? = some x) (hx : Loc X.env.scope x) (r : RelV v u)
  (h : ∀ s', Inv X pins (σ.set i (some v)) H s' -> (∃ a, Heap.SameBut a s.heap s'.heap /\ (a = X.env.locals \/ X.env.cells.lookup x = some a)) -> Q () s') (hf : X.fn x = true \/ X.env.scope.names.lookup x = some .local := by first | exact .inl rfl | exact .inr rfl | assumption) : wpAny M A (storeName X.env x u) Q E s := by
 obtain ⟨m, hn, hl⟩ := id I.loc
 have hcls : (X.env.scope.kind == .class || (X.env.scope.kind == .module && X.env.locals != X.env.globals)) = false := by rw [I.ok.kind]; rfl
 have hiσ : i < σ.length := by rw [I.len]; exact (List.getElem?_eq_some_iff.mp hi).1
 have cne := I.cne
 have tracked : ∀ {a : Addr} {h' : Heap}, (∃ o, s.heap.get? a = some o /\ H a = none) -> Heap.SameBut a s.heap h' -> HOk X.prog X.w H h' := fun {a h'} ha hs b ob e => by
  obtain ⟨_, _, hfree⟩ := ha
  refine (I.hok b ob e).stay (fun c w' hc q => (hs.2 c ?_).trans q) (fun _ q => q) fun _ _ q => q
  rintro rfl
  rcases hc with rfl | hc
  ·rw [hfree] at e; cases e
  ·rw [hfree] at hc; cases hc
 rcases hx with hk | hk
 ·refine wpAny_storeName_local hk hn (fun h' hn' hs => ?_) hcls
  obtain ⟨oL, _, _, hoL, _⟩ := id hn
  refine h _ ⟨I.ok, I.os, I.bare, ⟨fun b o e n hb hx => ?_, fun b o e n hb hx => ?_, I.base.free, fun b o e hx => ?_, I.base.tups, I.base.frzs, I.base.tbls⟩, ⟨_, hn', fun j y v' e1 e2 e3 => ?_⟩, fun y c e => ?_, I.free, I.freeC, fun p hp => ?_, tracked ⟨oL, hoL, I.free⟩ hs, by simpa using I.len⟩ ⟨_, hs, .inl rfl⟩
  ·exact (hs.2 b (Nat.ne_of_lt (Nat.lt_of_lt_of_le (Heap.lt_size e) I.ok.above))).trans (I.base.keep b o e n hb hx)
  ·obtain ⟨sl, e1⟩ := I.base.slot b o e n hb hx
   exact ⟨sl, (hs.2 b (Nat.ne_of_lt (Nat.lt_of_lt_of_le (Heap.lt_size e) I.ok.above))).trans e1⟩
  ·obtain ⟨o', e1⟩ := I.base.there b o e hx
   exact ⟨o', (hs.2 b (Nat.ne_of_lt (Nat.lt_of_lt_of_le (Heap.lt_size e) I.ok.above))).trans e1⟩
  ·by_cases hj : j = i
   ·subst hj
    rw [hi] at e1; cases e1
    rw [getElem?_set_self hiσ] at e2
    cases e2
    exact ⟨u, r, .inl ⟨hk, by simp⟩⟩
   ·rw [getElem?_set_ne (Ne.symm hj)] at e2
    obtain ⟨u', r', q⟩ := hl j y v' e1 e2 e3
    refine ⟨u', r', ?_⟩
    rcases q with ⟨k, e⟩ | ⟨k, c, e, z⟩
    ·refine .inl ⟨k, ?_⟩
     have : y ≠ x := fun e => hj (nodup_ix hN e1 (e ▸ hi))
     simp [this, e]
    ·exact .inr ⟨k, c, e, z.sameBut hs (cne y c e)⟩
  ·obtain ⟨w', z⟩ := I.cell y c e
   exact ⟨w', z.sameBut hs (cne y c e)⟩
  ·obtain ⟨e, n, ne, nf, d⟩ := I.pin p hp
   exact ⟨(hs.2 p.1 ne).trans e, n, ne, nf, d⟩
 ·have hfn : X.fn x = true := by
   rcases hf with z | z
   ·exact z
   ·rw [z] at hk; cases hk
  obtain ⟨c, hc⟩ := I.ok.has x (.inl hk)
  obtain ⟨w', z⟩ := I.cell x c hc
  refine wpAny_storeName_cell I.ok.kind hk hc z (fun h' hc' hs => ?_)
  obtain ⟨oc, hoc, hocd⟩ := id z
  refine h { s with heap := h' } ⟨I.ok, I.os, I.bare, ⟨fun b o e n hb hx => ?_, fun b o e n hb hx => ?_, I.base.free, fun b o e hx => ?_, I.base.tups, I.base.frzs, I.base.tbls⟩, ⟨m, hn.sameBut hs (Ne.symm (cne x c hc)), fun j y v' e1 e2 e3 => ?_⟩, fun y c' e => ?_, I.free, I.freeC, fun p hp => ?_, tracked ⟨oc, hoc, I.freeC x c hc⟩ hs, by simpa using I.len⟩ ⟨c, hs, .inr hc⟩
  ·exact (hs.2 b (Nat.ne_of_lt (Nat.lt_of_lt_of_le (Heap.lt_size e) (I.ok.cab x c hfn hc)))).trans (I.base.keep b o e n hb hx)
  ·obtain ⟨sl, e1⟩ := I.base.slot b o e n hb hx
   exact ⟨sl, (hs.2 b (Nat.ne_of_lt (Nat.lt_of_lt_of_le (Heap.lt_size e) (I.ok.cab x c hfn hc)))).trans e1⟩
  ·obtain ⟨o', e1⟩ := I.base.there b o e hx
   exact ⟨o', (hs.2 b (Nat.ne_of_lt (Nat.lt_of_lt_of_le (Heap.lt_size e) (I.ok.cab x c hfn hc)))).trans e1⟩
  ·by_cases hj : j = i
   ·subst hj
    rw [hi] at e1; cases e1
    rw [getElem?_set_self hiσ] at e2
    cases e2
    exact ⟨u, r, .inr ⟨.inl hk, c, hc, hc'⟩⟩
   ·rw [getElem?_set_ne (Ne.symm hj)] at e2
    obtain ⟨u', r', q⟩ := hl j y v' e1 e2 e3
    refine ⟨u', r', ?_⟩
    rcases q with q | ⟨k, c', e, z'⟩
    ·exact .inl q
    ·refine .inr ⟨k, c', e, z'.sameBut hs ?_⟩
     rintro rfl
     exact hj (nodup_ix hN e1 (I.ok.inj _ _ _ e hc ▸ hi))
  ·by_cases hcc : c' = c
   ·subst hcc; exact ⟨_, hc'⟩
   ·obtain ⟨w2, z2⟩ := I.cell y c' e
    exact ⟨w2, z2.sameBut hs hcc⟩
  ·obtain ⟨e, n, ne, nf, d⟩ := I.pin p hp
   refine ⟨(hs.2 p.1 ?_).trans e, n, ne, nf, d⟩
   intro q
   rw [q, hoc] at e
   have q' : oc = p.2 := Option.some.inj e
   exact d w' (by rw [<- q']; exact hocd)
theorem store_ok {M : Model} {A : Around} {E : Value -> Shared -> Prop} {i : Nat} {x : Str} {v : V} {u : Value} {Q : Unit -> Shared -> Prop} (I : Inv X pins σ H s) (hN : X.N.Nodup) (hi : X.N[i]? = some x) (hx : Loc X.env.scope x) (r : RelV v u)
  (h : ∀ s', Inv X pins (σ.set i (some v)) H s' -> Q () s') (hf : X.fn x = true \/ X.env.scope.names.lookup x = some .local := by first | exact .inl rfl | exact .inr rfl | assumption) : wpAny M A (storeName X.env x u) Q E s :=
 store_ok2 I hN hi hx r (fun s' I' _ => h s' I') hf
theorem Inv.call' {s' : Shared} {ch : List Addr} (I : Inv X pins σ H s) (ho : s'.os = s.os) (u : Un (frs X.stack) ch H H' s.heap s'.heap) (hok : HOk X.prog X.w H' s'.heap) (hg : AllBare s'.gens)
  (hch : ∀ b ∈ ch, (b ∈ X.ex \/ X.s₀.heap.objs.size <= b) /\ b ≠ X.env.locals /\ (∀ x c, X.env.cells.lookup x = some c -> c ≠ b) /\ ∀ p ∈ X.pn ++ pins, p.1 ≠ b) : Inv X pins σ H' s' := by
 obtain ⟨h', g', d', t', o'⟩ := s'
 have e : o' = s.os := ho
 subst e
 exact I.call (g' := g') (t' := t') (d' := d') u hok hg hch
end
abbrev XK := Value -> Option Addr -> Hp -> Prop
abbrev St := List (Option V)
abbrev VK := V -> Hp -> Prop
abbrev TE := St -> Hp -> VK -> Prop
abbrev TT := St -> Hp -> (Bool -> Hp -> Prop) -> Prop
abbrev TA := St -> Hp -> (List V -> Hp -> Prop) -> Prop
structure Ends where
 nx : St -> Hp -> Prop
 rt : VK
 bk : St -> Hp -> Prop := fun _ _ => False
 ct : St -> Hp -> Prop := fun _ _ => False
abbrev TS := Ends -> St -> Hp -> Prop
def EP (X : Cx) (pins : List (Addr × Obj)) (σ : St) (Q : VK) (u : Value) (s' : Shared) : Prop := ∃ v H', Inv X pins σ H' s' /\ RelV v u /\ Q v H'
def TP (X : Cx) (pins : List (Addr × Obj)) (σ : St) (Q : Bool -> Hp -> Prop) (b : Bool) (s' : Shared) : Prop := ∃ H', Inv X pins σ H' s' /\ Q b H'
def AP (X : Cx) (pins : List (Addr × Obj)) (σ : St) (Q : List V -> Hp -> Prop) (us : List Value) (s' : Shared) : Prop := ∃ vs H', Inv X pins σ H' s' /\ Vals vs us /\ Q vs H'
def SP (X : Cx) (pins : List (Addr × Obj)) (D : Ends) (f : Flow) (s' : Shared) : Prop :=
 match f with
 | .next => ∃ σ' H', Inv X pins σ' H' s' /\ D.nx σ' H'
 | .brk => ∃ σ' H', Inv X pins σ' H' s' /\ D.bk σ' H'
 | .cont => ∃ σ' H', Inv X pins σ' H' s' /\ D.ct σ' H'
 | .ret u => ∃ v σ' H', Inv X pins σ' H' s' /\ RelV v u /\ D.rt v H'
def PE (X : Cx) (e : Expr) (t : TE) : Prop :=
 ∀ (pins : List (Addr × Obj)) (s : Shared) (σ : St) (H : Hp) (Q : VK), Inv X pins σ H s -> t σ H Q -> wpAny (model X.prog X.w) X.A (eval e X.env) (EP X pins σ Q) X.xe s
def PT (X : Cx) (e : Expr) (t : TT) : Prop :=
 ∀ (pins : List (Addr × Obj)) (s : Shared) (σ : St) (H : Hp) (Q : Bool -> Hp -> Prop), Inv X pins σ H s -> t σ H Q -> wpAny (model X.prog X.w) X.A (isTrue e X.env (eval e X.env)) (TP X pins σ Q) X.xe s
def PW (X : Cx) (e : Expr) (t : TT) : Prop :=
 ∀ (whole : Sem Value) (pins : List (Addr × Obj)) (s : Shared) (σ : St) (H : Hp) (Q : Bool -> Hp -> Prop), Inv X pins σ H s -> t σ H Q -> wpAny (model X.prog X.w) X.A (isTrue e X.env whole) (TP X pins σ Q) X.xe s
theorem PW.pt {X : Cx} {e : Expr} {t : TT} (h : PW X e t) : PT X e t := h _
def PA (X : Cx) (es : List Expr) (t : TA) : Prop :=
 ∀ (pos : Pos) (pins : List (Addr × Obj)) (s : Shared) (σ : St) (H : Hp) (Q : List V -> Hp -> Prop), Inv X pins σ H s -> t σ H Q -> wpAny (model X.prog X.w) X.A (spliced (backTo pos (starEach es X.env))) (AP X pins σ Q) X.xe s
def PS (X : Cx) (st : Stmt) (t : TS) : Prop :=
 ∀ (pins : List (Addr × Obj)) (s : Shared) (σ : St) (H : Hp) (D : Ends), Inv X pins σ H s -> t D σ H -> wpAny (model X.prog X.w) X.A (exec st X.env) (SP X pins D) X.xe s
def PSs (X : Cx) (st : List Stmt) (t : TS) : Prop :=
 ∀ (pins : List (Addr × Obj)) (s : Shared) (σ : St) (H : Hp) (D : Ends), Inv X pins σ H s -> t D σ H -> wpAny (model X.prog X.w) X.A (execs st X.env) (SP X pins D) X.xe s
theorem thn {α : Type} {t : Sem α} {Q Q' : α -> Shared -> Prop} {M : Model} {A : Around} {E : Value -> Shared -> Prop} {s : Shared} (h : wpAny M A t Q E s) (hQ : ∀ a s, Q a s -> Q' a s) : wpAny M A t Q' E s := wpAny_mono h hQ fun _ _ x => x
end
section
section
variable {X : Cx}
def tVar (i : Nat) : TE := fun σ H Q => ∃ v, σ[i]? = some (some v) /\ Q v H
def tC (v : V) : TE := fun _ H Q => Q v H
theorem pe_var {i : Nat} {x : Str} {pos : Pos} (hN : X.N[i]? = some x) (hv : Vis X.env.scope x) (hd : (x == ("__debug__" : Str)) = false := by decide) (hcd : (x == ("__classdict__" : Str)) = false := by decide) : PE X (.Name x pos) (tVar i) := by
 intro pins s σ H Q I h
 obtain ⟨v, e, h⟩ := h
 obtain ⟨m, hn, hl⟩ := I.loc
 obtain ⟨u, r, l⟩ := hl i x v hN e hv
 have fin : EP X pins σ Q u s := ⟨v, H, I, r, h⟩
 rcases l with ⟨hk, hm⟩ | ⟨hk, c, hc, hcell⟩
 ·exact wpAny_Name (wpAny_loadName_local I.ok.kind hk hn hm fin) hd
 ·rcases hk with hk | hk
  ·exact wpAny_Name (wpAny_loadName_cell I.ok.kind hk hc hcell fin) hd
  ·exact wpAny_Name (wpAny_loadName_free I.ok.kind hk hc hcell fin hcd) hd
theorem pe_int {i j pos} : PE X (.Constant (.int i) j pos) (tC (.int i)) := fun _ _ _ H _ I h => wpAny_Constant_int ⟨.int i, H, I.tok _, ⟨_, rfl⟩, h⟩
theorem pe_bl {b j pos} : PE X (.Constant (.bool b) j pos) (tC (.bl b)) := fun _ _ _ H _ I h => Constant_bool ⟨.bl b, H, I, rfl, h⟩
theorem pe_non {j pos} : PE X (.Constant .none j pos) (tC .non) := fun _ _ _ H _ I h => Constant_none ⟨.non, H, I, rfl, h⟩
def Gl (X : Cx) (x : Str) : Prop := X.env.kindOf x = some .globalImplicit
theorem ld_glob {E : Value -> Shared -> Prop} {pins : List (Addr × Obj)} {s : Shared} {σ : St} {H : Hp} {x : Str} {u : Value} {pos : Pos} {Q : Value -> Shared -> Prop} (I : Inv X pins σ H s) (hg : Gl X x) (hm : X.mg x = some u) (h : Q u s)
  (hd : (x == ("__debug__" : Str)) = false := by decide) : wpAny (model X.prog X.w) X.A (eval (.Name x pos) X.env) Q E s :=
 Calls.Name_function_global I.ok.kind hg (Calls.loadGlobal_global (by rw [I.ok.glob]; exact I.mod.glob.keeps I.bk) hm h) hd
theorem ld_blt {E : Value -> Shared -> Prop} {pins : List (Addr × Obj)} {s : Shared} {σ : St} {H : Hp} {x : Str} {u : Value} {pos : Pos} {Q : Value -> Shared -> Prop} (I : Inv X pins σ H s) (hg : Gl X x) (hm : X.mg x = none) (hv : bootBuiltins x = some u) (h : Q u s)
  (hn : x ≠ "__name__" := by decide) (hd : (x == ("__debug__" : Str)) = false := by decide) : wpAny (model X.prog X.w) X.A (eval (.Name x pos) X.env) Q E s := by
 obtain ⟨mb, h1, h2⟩ := I.mod.blt
 exact Calls.Name_function_global I.ok.kind hg (Calls.loadGlobal_builtin (by rw [I.ok.glob]; exact I.mod.glob.keeps I.bk) hm (by rw [I.ok.blt]; exact h1.keeps I.bk) ((h2 x hn).trans hv) h) hd
theorem pe_glob {x : Str} {v : V} {u : Value} {pos : Pos} (hg : Gl X x) (hm : X.mg x = some u) (r : RelV v u) (hd : (x == ("__debug__" : Str)) = false := by decide) : PE X (.Name x pos) (tC v) :=
 fun _ _ _ H _ I h => ld_glob I hg hm ⟨v, H, I, r, h⟩ hd
theorem pe_bltn {x : Str} {v : V} {u : Value} {pos : Pos} (hg : Gl X x) (hm : X.mg x = none) (hv : bootBuiltins x = some u) (r : RelV v u) (hn : x ≠ "__name__" := by decide) (hd : (x == ("__debug__" : Str)) = false := by decide) : PE X (.Name x pos) (tC v) :=
 fun _ _ _ H _ I h => ld_blt I hg hm hv ⟨v, H, I, r, h⟩ hn hd
variable {a b : Expr} {ta tb : TE} {pos : Pos}
variable {tA tB' : TT} {rest : List Expr}
def tAnd (t u : TT) : TT := fun σ H Q => t σ H fun c H1 => if c = true then u σ H1 Q else Q false H1
def tOr (t u : TT) : TT := fun σ H Q => t σ H fun c H1 => if c = true then Q true H1 else u σ H1 Q
def tNot (t : TT) : TT := fun σ H Q => t σ H fun c H1 => Q (!c) H1
theorem pw_and1 (ha : PT X a tA) : PW X (.BoolOp .And [a] pos) tA := by
 intro wh pins s σ H Q I h
 refine isTrue_and (thn (ha pins s σ H Q I h) fun c s1 e => ?_)
 cases c with
 | true => exact isTrue_and_nil e
 | false => exact e
theorem pw_or1 (ha : PT X a tA) : PW X (.BoolOp .Or [a] pos) tA := by
 intro wh pins s σ H Q I h
 refine isTrue_or (thn (ha pins s σ H Q I h) fun c s1 e => ?_)
 cases c with
 | false => exact isTrue_or_nil e
 | true => exact e
theorem pw_and (ha : PT X a tA) (hb : PW X (.BoolOp .And (b :: rest) pos) tB') : PW X (.BoolOp .And (a :: b :: rest) pos) (tAnd tA tB') := by
 intro wh pins s σ H Q I h
 refine isTrue_and (thn (ha pins s σ H _ I h) fun c s1 hpat => ?_)
 obtain ⟨H1, I1, q1⟩ := hpat
 cases c with
 | true => exact hb wh pins s1 σ H1 Q I1 q1
 | false => exact ⟨H1, I1, q1⟩
theorem pw_or (ha : PT X a tA) (hb : PW X (.BoolOp .Or (b :: rest) pos) tB') : PW X (.BoolOp .Or (a :: b :: rest) pos) (tOr tA tB') := by
 intro wh pins s σ H Q I h
 refine isTrue_or (thn (ha pins s σ H _ I h) fun c s1 hpat => ?_)
 obtain ⟨H1, I1, q1⟩ := hpat
 cases c with
 | true => exact ⟨H1, I1, q1⟩
 | false => exact hb wh pins s1 σ H1 Q I1 q1
theorem pt_not (ha : PT X a tA) : PT X (.UnaryOp .Not a pos) (tNot tA) := by
 intro pins s σ H Q I h
 exact isTrue_not (ha pins s σ H (fun c H1 => Q (!c) H1) I h)
def tAndV (ta tb : TE) : TE := fun σ H Q => ta σ H fun x H1 => ∃ c, x = .bl c /\ if c = true then tb σ H1 Q else Q (.bl false) H1
def tNotV (ta : TE) : TE := fun σ H Q => ta σ H fun x H1 => ∃ c, x = .bl c /\ Q (.bl (!c)) H1
theorem pe_one {op} {t : TE} (h : PE X a t) : PE X (.BoolOp op [a] pos) t := fun pins s σ H Q I hw => BoolOp_one (h pins s σ H Q I hw)
theorem pe_and (ha : PE X a ta) (hb : PE X (.BoolOp .And (b :: rest) pos) tb) : PE X (.BoolOp .And (a :: b :: rest) pos) (tAndV ta tb) := by
 intro pins s σ H Q I h
 refine BoolOp_and (thn (ha pins s σ H _ I h) fun v s1 hpat => ?_)
 obtain ⟨x, H1, I1, r1, q1⟩ := hpat
 obtain ⟨c, rfl, q1⟩ := q1
 cases r1
 refine wpAny_truthy_bool ?_
 cases c with
 | true => exact hb pins s1 σ H1 Q I1 q1
 | false => exact ⟨.bl false, H1, I1, rfl, q1⟩
theorem pe_not (ha : PE X a ta) : PE X (.UnaryOp .Not a pos) (tNotV ta) := by
 intro pins s σ H Q I h
 refine UnaryOp_ (thn (ha pins s σ H _ I h) fun v s1 hpat => ?_)
 obtain ⟨x, H1, I1, r1, q1⟩ := hpat
 obtain ⟨c, rfl, q1⟩ := q1
 cases r1
 exact not_of (wpAny_truthy_bool ⟨.bl (!c), H1, I1, rfl, q1⟩)
end
end
section
def SqL (K : W.Frag) (H : Hp) (a : Addr) (xs : List V) : Prop :=
 Rd H a (.lst xs) \/
  ∃ (o : Obj) (its : Array Value) (n : Nat), K.lookup a = some o /\ o.cls = .type "list" /\ o.dict = none /\ o.data = .seq its n /\ its.size <= sizeLine /\ Vals xs its.toList
def SqT (K : W.Frag) (H : Hp) (a : Addr) (xs : List V) : Prop :=
 Rd H a (.tup xs) \/
  ∃ (o : Obj) (its : Array Value) (n : Nat), K.lookup a = some o /\ o.cls = .type "tuple" /\ o.data = .seq its n /\ its.size <= sizeLine /\ Vals xs its.toList
def absV : Value -> Option V
 | .none => some .non
 | .bool b => some (.bl b)
 | .int i _ => some (.int i)
 | .str x _ => some (.str x)
 | .bytes b _ => some (.byt b)
 | .float b _ => some (.flt b)
 | .ref a => some (.ref a)
 | .type n => some (.ty n)
 | _ => none
theorem RelV.abs {x : V} {u : Value} (r : RelV x u) : absV u = some x := by
 cases x with
 | non => cases r; rfl
 | bl _ => cases r; rfl
 | int _ => obtain ⟨t, rfl⟩ := r; rfl
 | str _ => obtain ⟨t, rfl⟩ := r; rfl
 | byt _ => obtain ⟨t, rfl⟩ := r; rfl
 | flt _ => obtain ⟨t, rfl⟩ := r; rfl
 | ref _ => cases r; rfl
 | ty _ => cases r; rfl
theorem RelV.inj {x y : V} {u : Value} (r : RelV x u) (q : RelV y u) : x = y := Option.some.inj (r.abs.symm.trans q.abs)
theorem Vals.inj : ∀ {xs ys : List V} {us : List Value}, Vals xs us -> Vals ys us -> xs = ys
 | _, _, _, .nil, .nil => rfl
 | _, _, _, .cons r t, .cons r' t' => by rw [r.inj r', Vals.inj t t']
section
variable {X : Cx} {pins : List (Addr × Obj)} {σ : St} {H : Hp} {s : Shared} {a : Addr} {xs ys : List V}
theorem SqL.of {K : W.Frag} (h : H a = some (.lst xs)) : SqL K H a xs := .inl (.inl h)
theorem SqT.of {K : W.Frag} (h : H a = some (.tup xs)) : SqT K H a xs := .inl (.inl h)
theorem Inv.list (I : Inv X pins σ H s) (h : SqL X.K H a xs) : ∃ its : List Value, Vals xs its /\ PlainL s.heap a its.toArray /\ xs.length <= sizeLine := by
 rcases h with h | ⟨o, its, n, hk, hc, hd, hs, hz, r⟩
 ·obtain ⟨z, its, n, r, e⟩ := h.ok I.hok
  exact ⟨its, r, ⟨_, n, e, rfl, rfl, rfl⟩, z⟩
 ·refine ⟨its.toList, r, ⟨o, n, I.kIn a o hk, hc, hd, by simpa using hs⟩, ?_⟩
  have e := r.length
  simp only [Array.length_toList] at e
  omega
theorem Inv.tuple (I : Inv X pins σ H s) (h : SqT X.K H a xs) : ∃ its : List Value, Vals xs its /\ IsTup s.heap a its.toArray /\ xs.length <= sizeLine := by
 rcases h with h | ⟨o, its, n, hk, hc, hs, hz, r⟩
 ·obtain ⟨z, its, r, p⟩ := h.ok I.hok
  exact ⟨its, r, p, z⟩
 ·refine ⟨its.toList, r, ⟨o, I.kIn a o hk, hc, n, by simpa using hs⟩, ?_⟩
  have e := r.length
  simp only [Array.length_toList] at e
  omega
theorem Inv.list_inj (I : Inv X pins σ H s) (h : SqL X.K H a xs) (h' : SqL X.K H a ys) : xs = ys := by
 obtain ⟨its, r, ⟨o, n, e, _, _, d⟩, _⟩ := I.list h
 obtain ⟨its', r', ⟨o', n', e', _, _, d'⟩, _⟩ := I.list h'
 rw [e] at e'; cases e'
 rw [d] at d'
 injection d' with d1 _
 have : its = its' := by simpa using congrArg Array.toList d1
 subst this
 exact r.inj r'
theorem Inv.tuple_inj (I : Inv X pins σ H s) (h : SqT X.K H a xs) (h' : SqT X.K H a ys) : xs = ys := by
 obtain ⟨its, r, ⟨o, e, _, n, d⟩, _⟩ := I.tuple h
 obtain ⟨its', r', ⟨o', e', _, n', d'⟩, _⟩ := I.tuple h'
 rw [e] at e'; cases e'
 rw [d] at d'
 injection d' with d1 _
 have : its = its' := by simpa using congrArg Array.toList d1
 subst this
 exact r.inj r'
end
abbrev Cx.wish (X : Cx) (E : Value -> Shared -> Prop) : Cx := { X with xe := E }
abbrev Cx.nox (X : Cx) : Cx := X.wish fun _ _ => False
theorem Cx.Ok.wish {X : Cx} (ok : X.Ok) (E : Value -> Shared -> Prop) : (X.wish E).Ok :=
 ⟨ok.mod, ok.kind, ok.glob, ok.blt, ok.above, ok.inj, ok.has, ok.cab, ok.hd, ok.frames, ok.stk, ok.exf, ok.bs, ok.bsz, ok.noex, ok.exfs, ok.funs, ok.frf⟩
theorem Cx.Ok.unwish {X : Cx} {E : Value -> Shared -> Prop} (ok : (X.wish E).Ok) : X.Ok :=
 ⟨ok.mod, ok.kind, ok.glob, ok.blt, ok.above, ok.inj, ok.has, ok.cab, ok.hd, ok.frames, ok.stk, ok.exf, ok.bs, ok.bsz, ok.noex, ok.exfs, ok.funs, ok.frf⟩
section
variable {X : Cx} {pins : List (Addr × Obj)} {σ : St} {H : Hp} {s : Shared} {E : Value -> Shared -> Prop}
theorem Inv.wish (I : Inv X pins σ H s) (E : Value -> Shared -> Prop) : Inv (X.wish E) pins σ H s := ⟨I.ok.wish E, I.os, I.bare, I.base, I.loc, I.cell, I.free, I.freeC, I.pin, I.hok, I.len⟩
theorem Inv.unwish (I : Inv (X.wish E) pins σ H s) : Inv X pins σ H s := ⟨I.ok.unwish, I.os, I.bare, I.base, I.loc, I.cell, I.free, I.freeC, I.pin, I.hok, I.len⟩
theorem SP.unwish {D : Ends} {f : Flow} {s' : Shared} (h : SP (X.wish E) pins D f s') : SP X pins D f s' := by
 cases f with
 | next => obtain ⟨σ', H', I, q⟩ := h; exact ⟨σ', H', I.unwish, q⟩
 | brk => obtain ⟨σ', H', I, q⟩ := h; exact ⟨σ', H', I.unwish, q⟩
 | cont => obtain ⟨σ', H', I, q⟩ := h; exact ⟨σ', H', I.unwish, q⟩
 | ret u => obtain ⟨v, σ', H', I, r, q⟩ := h; exact ⟨v, σ', H', I.unwish, r, q⟩
theorem PE.nox {e : Expr} {t : TE} (h : PE X.nox e t) : PE X e t := fun pins s σ H Q I hw =>
 wpAny_mono (h pins s σ H Q (I.wish _) hw) (fun _ _ ⟨v, H', I', r, q⟩ => ⟨v, H', I'.unwish, r, q⟩) fun _ _ z => False.elim z
theorem PT.nox {e : Expr} {t : TT} (h : PT X.nox e t) : PT X e t := fun pins s σ H Q I hw =>
 wpAny_mono (h pins s σ H Q (I.wish _) hw) (fun _ _ ⟨H', I', q⟩ => ⟨H', I'.unwish, q⟩) fun _ _ z => False.elim z
theorem PSs.nox {st : List Stmt} {t : TS} (h : PSs X.nox st t) : PSs X st t := fun pins s σ H D I hw =>
 wpAny_mono (h pins s σ H D (I.wish _) hw) (fun _ _ q => q.unwish) fun _ _ z => False.elim z
end
section
variable {X : Cx} {st : Stmt} {rest : List Stmt} {t u : TS} {e : Expr} {te : TE} {pos : Pos}
def tNext : TS := fun D σ H => D.nx σ H
def tSeq (t u : TS) : TS := fun D σ H => t { D with nx := u D } σ H
theorem pss_nil : PSs X [] tNext := fun _ _ σ H _ I h => wpAny_execs_nil ⟨σ, H, I, h⟩
theorem pss_cons (h1 : PS X st t) (h2 : PSs X rest u) : PSs X (st :: rest) (tSeq t u) := by
 intro pins s σ H D I h
 refine wpAny_execs_cons (thn (h1 pins s σ H { D with nx := u D } I h) fun f s1 q => ?_)
 cases f with
 | next =>
  obtain ⟨σ', H', I', q⟩ := q
  exact h2 pins s1 σ' H' D I' q
 | ret v => exact q
 | brk => exact q
 | cont => exact q
theorem pss_one (h1 : PS X st t) : PSs X [st] t := by
 intro pins s σ H D I h
 refine wpAny_execs_cons (thn (h1 pins s σ H D I h) fun f s1 q => ?_)
 cases f with
 | next => exact wpAny_execs_nil q
 | ret v => exact q
 | brk => exact q
 | cont => exact q
theorem Inv.quiet {pins : List (Addr × Obj)} {σ : St} {H : Hp} {s : Shared} (I : Inv X pins σ H s) : interactive X.env = false := by simp [interactive, I.ok.kind]
def tDrop (te : TE) : TS := fun D σ H => te σ H fun _ H1 => D.nx σ H1
theorem ps_expr (he : PE X e te) (hs : swapsWith e none pos.line X.env = pure false := by rfl) : PS X (.Expr e pos) (tDrop te) := by
 intro pins s σ H D I h
 exact wpAny_Expr_any (thn (he pins s σ H _ I h) fun v s1 ⟨x, H1, I1, r1, q1⟩ => ⟨σ, H1, I1, q1⟩) I.quiet hs
def tRet (te : TE) : TS := fun D σ H => te σ H D.rt
theorem ps_ret (he : PE X e te) : PS X (.Return (some e) pos) (tRet te) := by
 intro pins s σ H D I h
 exact wpAny_Return_some (thn (he pins s σ H _ I h) fun v s1 ⟨x, H1, I1, r1, q1⟩ => ⟨x, σ, H1, I1, r1, q1⟩)
def tIfS (c : TT) (t u : TS) : TS := fun D σ H => c σ H fun b H1 => if b = true then t D σ H1 else u D σ H1
theorem ps_if {c : Expr} {a b : List Stmt} {tc : TT} (hc : PT X c tc) (ha : PSs X a t) (hb : PSs X b u) : PS X (.If c a b pos) (tIfS tc t u) := by
 intro pins s σ H D I h
 refine wpAny_If (thn (hc pins s σ H _ I h) fun d s1 hpat => ?_)
 obtain ⟨H1, I1, q1⟩ := hpat
 cases d with
 | true => exact ha pins s1 σ H1 D I1 q1
 | false => exact hb pins s1 σ H1 D I1 q1
def tNever : TS := fun _ _ _ => False
theorem ps_never : PS X st tNever := fun _ _ _ _ _ _ h => h.elim
end
abbrev TG := V -> St -> Hp -> (St -> Hp -> Prop) -> Prop
abbrev TGs := List V -> St -> Hp -> (St -> Hp -> Prop) -> Prop
def PG (X : Cx) (target : Expr) (t : TG) : Prop :=
 ∀ (pins : List (Addr × Obj)) (s : Shared) (σ : St) (H : Hp) (v : V) (u : Value) (Q : St -> Hp -> Prop), Inv X pins σ H s -> RelV v u -> t v σ H Q ->
  wpAny (model X.prog X.w) X.A (assign target X.env u) (fun _ s' => ∃ σ' H', Inv X pins σ' H' s' /\ Q σ' H') X.xe s
def PGs (X : Cx) (ts : List Expr) (t : TGs) : Prop :=
 ∀ (pins : List (Addr × Obj)) (s : Shared) (σ : St) (H : Hp) (vs : List V) (us : List Value) (Q : St -> Hp -> Prop), Inv X pins σ H s -> Vals vs us -> t vs σ H Q ->
  wpAny (model X.prog X.w) X.A (assignInOrder ((assignEach ts X.env).map (·.2)) us) (fun _ s' => ∃ σ' H', Inv X pins σ' H' s' /\ Q σ' H') X.xe s
abbrev TSet := V -> V -> V -> Hp -> (Hp -> Prop) -> Prop
def PSet (X : Cx) (t : TSet) : Prop :=
 ∀ (pins : List (Addr × Obj)) (s : Shared) (σ : St) (H : Hp) (o i v : V) (ov iv u : Value) (Q : Hp -> Prop), Inv X pins σ H s -> RelV o ov -> RelV i iv -> RelV v u -> t o i v H Q ->
  wpAny (model X.prog X.w) X.A (setItem ov iv u) (fun _ s' => ∃ H', Inv X pins σ H' s' /\ Q H') X.xe s
abbrev TIp := V -> V -> Hp -> VK -> Prop
def PIp (X : Cx) (op : Operator) (t : TIp) : Prop :=
 ∀ (pins : List (Addr × Obj)) (s : Shared) (σ : St) (H : Hp) (x y : V) (v u : Value) (Q : VK), Inv X pins σ H s -> RelV x v -> RelV y u -> t x y H Q ->
  wpAny (model X.prog X.w) X.A (inplaceOp op v u) (EP X pins σ Q) X.xe s
section
variable {X : Cx} {pos : Pos}
def gName (i : Nat) : TG := fun v σ H Q => Q (σ.set i (some v)) H
theorem pg_name {i : Nat} {x : Str} (hN : X.N.Nodup) (hi : X.N[i]? = some x) (hx : Loc X.env.scope x) (hf : X.fn x = true \/ X.env.scope.names.lookup x = some .local := by first | exact .inl rfl | exact .inr rfl | assumption) : PG X (.Name x pos) (gName i) := by
 intro pins s σ H v u Q I r h
 exact wpAny_assign_Name (store_ok I hN hi hx r (fun s' I' => ⟨_, H, I', h⟩) hf)
def gNil : TGs := fun vs σ H Q => vs = [] /\ Q σ H
def gCons (t : TG) (u : TGs) : TGs := fun vs σ H Q => ∃ v r, vs = v :: r /\ t v σ H fun σ' H' => u r σ' H' Q
theorem pgs_nil : PGs X [] gNil := by
 intro pins s σ H vs us Q I r h
 obtain ⟨e, h⟩ := h
 subst e
 cases r
 exact assignInOrder_nil ⟨σ, H, I, h⟩
theorem pgs_cons {e : Expr} {es : List Expr} {t : TG} {u : TGs} (h1 : PG X e t) (h2 : PGs X es u)
  (hs : (assignEach (e :: es) X.env).map (·.2) = assign e X.env :: (assignEach es X.env).map (·.2) := by rfl) : PGs X (e :: es) (gCons t u) := by
 intro pins s σ H vs us Q I r h
 obtain ⟨v, vr, e1, h⟩ := h
 subst e1
 cases r with
 | cons r rr =>
  rw [hs]
  refine assignInOrder_cons (thn (h1 pins s σ H _ _ _ I r h) fun _ s1 hpat => ?_)
  obtain ⟨σ1, H1, I1, q1⟩ := hpat
  exact h2 pins s1 σ1 H1 _ _ Q I1 rr q1
def gTup (K : W.Frag) (n : Nat) (t : TGs) : TG := fun v σ H Q => ∃ a xs, v = .ref a /\ SqT K H a xs /\ xs.length = n /\ t xs σ H Q
theorem pg_tup {es : List Expr} {k : Nat} {t : TGs} {n : Nat} (hc : X.calm = true) (h : PGs X es t)
  (hn : (assignEach es X.env).length = n := by rfl) (hst : (assignEach es X.env).findIdx? (·.1) = none := by rfl) : PG X (.Tuple es k pos) (gTup X.K n t) := by
 intro pins s σ H v u Q I r hw
 obtain ⟨a, xs, e1, hq, hl, hw⟩ := hw
 subst e1
 cases r
 obtain ⟨its, rv, ht, hz⟩ := I.tuple hq
 refine assign_Tuple_tuple (I.ok.hd hc) ht (by simp [hn, <- hl, rv.length]) hst fun h' hx => ?_
 have I1 : Inv X pins σ H { s with heap := h' } := I.kept (t' := s.toks) fun b o e => hx b o (Nat.ne_of_lt (Heap.lt_size e)) e
 exact h pins _ σ H xs _ Q I1 (by simpa using rv) hw
def gSub (to ti : TE) (t : TSet) : TG := fun v σ H Q => to σ H fun o H1 => ti σ H1 fun i H2 => t o i v H2 fun H3 => Q σ H3
theorem pg_sub {o i : Expr} {to ti : TE} {t : TSet} (ho : PE X o to) (hi : PE X i ti) (hs : PSet X t)
  (ha : ∀ v, assign (.Subscript o i pos) X.env v = (do
   let ov ← holding [v] (eval o X.env)
   let iv ← holding [v, ov] (eval i X.env)
   standAt pos
   holding [v, ov, iv] (setItem ov iv v)
   release [v, ov, iv] []) := by intro _; rfl) : PG X (.Subscript o i pos) (gSub to ti t) := by
 intro pins s σ H v u Q I r h
 rw [ha]
 refine wpAny_bind (wpAny_holding (thn (ho pins s σ H _ I h) fun ov s1 hpat => ?_))
 obtain ⟨x, H1, I1, r1, q1⟩ := hpat
 refine wpAny_bind (wpAny_holding (thn (hi pins s1 σ H1 _ I1 q1) fun iv s2 hpat => ?_))
 obtain ⟨y, H2, I2, r2, q2⟩ := hpat
 refine wpAny_bind (wpAny_standAt (wpAny_bind (wpAny_holding (thn (hs pins s2 σ H2 x y v ov iv u _ I2 r1 r2 r q2) fun _ s3 hpat => ?_))))
 obtain ⟨H3, I3, q3⟩ := hpat
 exact wpAny_release ⟨σ, H3, I3, q3⟩
def tAsg (te : TE) (g : TG) : TS := fun D σ H => te σ H fun x H1 => g x σ H1 D.nx
theorem ps_asg {tg e : Expr} {te : TE} {g : TG} (he : PE X e te) (hg : PG X tg g) (hs : swapsWithSole [tg] e pos.line X.env = pure false := by rfl) (hw : swappedStores [tg] e X.env = pure none := by rfl)
  (h1 : (assignEach [tg] X.env).map (·.2) = [assign tg X.env] := by rfl) : PS X (.Assign [tg] e pos) (tAsg te g) := by
 intro pins s σ H D I h
 refine wpAny_Assign_stores (thn (he pins s σ H _ I h) fun v s1 hpat => ?_) hs hw
 obtain ⟨x, H1, I1, r1, q1⟩ := hpat
 rw [h1]
 exact thn (hg pins s1 σ H1 x v _ I1 r1 q1) fun _ s2 q => q
theorem ps_set {i : Nat} {x : Str} {e : Expr} {te : TE} {pos' : Pos} (hN : X.N.Nodup) (hi : X.N[i]? = some x) (hx : Loc X.env.scope x) (he : PE X e te) (hs : swapsWith e (some (.Name x pos')) pos.line X.env = pure false := by rfl) (hf : X.fn x = true \/ X.env.scope.names.lookup x = some .local := by first | exact .inl rfl | exact .inr rfl | assumption) :
  PS X (.Assign [.Name x pos'] e pos) (tAsg te (gName i)) := by
 intro pins s σ H D I h
 refine wpAny_Assign_Name (thn (he pins s σ H _ I h) fun v s1 hpat => ?_) hs
 obtain ⟨y, H1, I1, r1, q1⟩ := hpat
 exact store_ok I1 hN hi hx r1 (fun s2 I2 => ⟨_, H1, I2, q1⟩) hf
def tAug (i : Nat) (te : TE) (ti : TIp) : TS := fun D σ H => ∃ x, σ[i]? = some (some x) /\ te σ H fun y H1 => ti x y H1 fun z H2 => D.nx (σ.set i (some z)) H2
theorem ps_aug {i : Nat} {x : Str} {e : Expr} {te : TE} {op : Operator} {ti : TIp} {pos' : Pos} (hN : X.N.Nodup) (hi : X.N[i]? = some x) (hx : Loc X.env.scope x) (he : PE X e te) (ho : PIp X op ti) (hf : X.fn x = true \/ X.env.scope.names.lookup x = some .local := by first | exact .inl rfl | exact .inr rfl | assumption) :
  PS X (.AugAssign (.Name x pos') op e pos) (tAug i te ti) := by
 intro pins s σ H D I h
 obtain ⟨v, e1, h⟩ := h
 obtain ⟨m, hn, hl⟩ := I.loc
 have vis : Vis X.env.scope x := by rcases hx with k | k; exact .inl k; exact .inr (.inl k)
 obtain ⟨u, r, l⟩ := hl i x v hi e1 vis
 refine wpAny_AugAssign_Name ?_
 have go : wpAny (model X.prog X.w) X.A (eval e X.env) (fun w s₂ => wpAny (model X.prog X.w) X.A (inplaceOp op u w) (fun r s₃ => wpAny (model X.prog X.w) X.A (storeName X.env x r) (fun _ => SP X pins D .next) X.xe s₃) X.xe s₂) X.xe s := by
  refine thn (he pins s σ H _ I h) fun w s1 hpat => ?_
  obtain ⟨y, H1, I1, r1, q1⟩ := hpat
  refine thn (ho pins s1 σ H1 v y u w _ I1 r r1 q1) fun z s2 hpat => ?_
  obtain ⟨zv, H2, I2, r2, q2⟩ := hpat
  exact store_ok I2 hN hi hx r2 (fun s3 I3 => ⟨_, H2, I3, q2⟩) hf
 rcases l with ⟨hk, hm⟩ | ⟨hk, c, hc, hcell⟩
 ·exact wpAny_loadName_local I.ok.kind hk hn hm go
 ·rcases hk with hk | hk
  ·exact wpAny_loadName_cell I.ok.kind hk hc hcell go
  ·rcases hx with k | k
   ·have : X.env.scope.names.lookup x = some .free := hk
    rw [k] at this; cases this
   ·have : X.env.scope.names.lookup x = some .free := hk
    rw [k] at this; cases this
def ipI (f : Int -> Int -> Int) : TIp := fun x y H Q => ∃ i j, x = .int i /\ y = .int j /\ Q (.int (f i j)) H
theorem ip_add : PIp X .Add (ipI fun i j => i + j) := by
 intro pins s σ H x y v u Q I r1 r2 h
 obtain ⟨i, j, e1, e2, q⟩ := h
 subst e1; subst e2
 obtain ⟨t, rfl⟩ := r1
 obtain ⟨t', rfl⟩ := r2
 exact iadd_int ⟨.int _, H, I.tok _, ⟨_, rfl⟩, q⟩
end
section
variable {X : Cx} {pos : Pos}
end
structure It where
 go : Nat -> Hp -> Prop
 yld : Nat -> Hp -> V -> Hp -> Prop
 stop : Nat -> Hp -> Prop
def FpOk (X : Cx) (pins : List (Addr × Obj)) (H : Hp) (b : Addr) : Prop :=
 H b = none /\ b ≠ X.env.locals /\ b ∉ X.fs /\ (b ∈ X.ex \/ X.s₀.heap.objs.size <= b) /\ (∀ x c, X.env.cells.lookup x = some c -> c ≠ b) /\ ∀ p ∈ X.pn ++ pins, p.1 ≠ b
theorem Inv.fpOk {X : Cx} {pins : List (Addr × Obj)} {σ : St} {H H' : Hp} {s : Shared} {b : Addr} (I : Inv X pins σ H s) (hb : s.heap.objs.size <= b) (hn : H' b = none) : FpOk X pins H' b := by
 refine ⟨hn, Nat.ne_of_gt (Nat.lt_of_lt_of_le I.lt hb), I.nofs hb, .inr (Nat.le_trans I.sz hb), fun x c e z => ?_, fun p hp z => ?_⟩
 ·obtain ⟨v, q⟩ := I.cell x c e
  exact absurd (Nat.lt_of_lt_of_le q.lt (by rw [z]; exact hb)) (Nat.lt_irrefl _)
 ·exact absurd (Nat.lt_of_lt_of_le (Heap.lt_size (I.pin p hp).1) (by rw [z]; exact hb)) (Nat.lt_irrefl _)
structure Turn (P : Program) (w : World) (K : W.Frag) (tg : Expr) (J : It) (fp : List Addr) (it : Addr) (tn : Nat -> Heap -> Prop) : Prop where
 mem : it ∈ fp
 obj : ∀ i h, tn i h -> ∀ b ∈ fp, ∃ o, h.get? b = some o /\ ∀ v, o.data ≠ .cell v
 keep : ∀ i h h', tn i h -> (∀ b ∈ fp, ∀ o, h.get? b = some o -> h'.get? b = some o) -> tn i h'
 item : ∀ (X : Cx), X.prog = P -> X.w = w -> X.K = K -> X.calm = true -> ∀ (i : Nat) (pins : List (Addr × Obj)) (s : Shared) (σ : St) (H : Hp) (E : Value -> Shared -> Prop), Inv X pins σ H s -> (∀ b ∈ fp, FpOk X pins H b) -> tn i s.heap -> J.go i H ->
  wpAny (model P w) X.A (pyNext (.ref it)) (fun r s1 => ∃ u, r = some u /\
   wpAny (model P w) X.A (letOwnedTupleGo tg (.ref it) u) (fun _ s2 => ∃ x H', Inv X pins σ H' s2 /\ RelV x u /\ J.yld i H x H' /\ tn (i + 1) s2.heap /\ ∀ b ∈ fp, H' b = none) E s1) E s
 done : ∀ (X : Cx), X.prog = P -> X.w = w -> X.K = K -> X.calm = true -> ∀ (i : Nat) (pins : List (Addr × Obj)) (s : Shared) (σ : St) (H : Hp) (E : Value -> Shared -> Prop), Inv X pins σ H s -> (∀ b ∈ fp, FpOk X pins H b) -> tn i s.heap -> J.stop i H ->
  wpAny (model P w) X.A (pyNext (.ref it)) (fun r s1 => r = none /\ Inv X pins σ H s1) E s
 self : ∀ (A : Around) (i : Nat) (s : Shared) (Q : Value -> Shared -> Prop) (E : Value -> Shared -> Prop), tn i s.heap -> Q (.ref it) s -> wpAny (model P w) A (pyIter (.ref it)) Q E s
abbrev TI := St -> Hp -> (It -> Hp -> Prop) -> Prop
def PIE (X : Cx) (pins : List (Addr × Obj)) (σ : St) (tg : Expr) (R : It -> Hp -> Prop) (itv : Value) (s2 : Shared) : Prop :=
 ∃ (it : Addr) (fp : List Addr) (tn : Nat -> Heap -> Prop) (J : It) (H' : Hp), itv = .ref it /\ Inv X pins σ H' s2 /\ Turn X.prog X.w X.K tg J fp it tn /\ tn 0 s2.heap /\ (∀ b ∈ fp, FpOk X pins H' b) /\ R J H'
def PI (X : Cx) (tg iter : Expr) (wi : TI) : Prop :=
 ∀ (pins : List (Addr × Obj)) (s : Shared) (σ : St) (H : Hp) (R : It -> Hp -> Prop), Inv X pins σ H s -> wi σ H R ->
  wpAny (model X.prog X.w) X.A (eval iter X.env) (fun v s1 => wpAny (model X.prog X.w) X.A (pyIter v) (PIE X pins σ tg R) X.xe s1) X.xe s
theorem go_of {M : Model} {A : Around} {E : Value -> Shared -> Prop} {s : Shared} {tg : Expr} {it : Addr} {u : Value} {o : Obj} {n : String} {vs : Array Value} {Q : Unit -> Shared -> Prop} (ho : s.heap.get? it = some o) (hc : o.cls = .type n) (hd : o.data = .fields vs)
  (hn : ["enumerate", "zip", "dict_itemiterator", "dict_reverseitemiterator", "odict_iterator", "itertools.zip_longest", "itertools.pairwise"].contains n = false) (hQ : Q () s) : wpAny M A (letOwnedTupleGo tg (.ref it) u) Q E s := by
 unfold letOwnedTupleGo
 cases tg <;> first
  | exact wpAny_pure hQ
  | (cases u <;> first
    | exact wpAny_pure hQ
    | (refine wpAny_bind (wpAny_load ho ?_)
       rw [hc, hd]
       show wpAny M A (if (["enumerate", "zip", "dict_itemiterator", "dict_reverseitemiterator", "odict_iterator", "itertools.zip_longest", "itertools.pairwise"].contains n && vs[0]? == some (rawInt _)) = true then _ else _) Q E s
       rw [if_neg (by intro h; rw [hn, Bool.false_and] at h; cases h)]
       exact wpAny_pure hQ))
def Itl (K : W.Frag) (a : Addr) : It :=
 ⟨fun i H => ∃ xs x, SqL K H a xs /\ xs[i]? = some x, fun i H x H' => H' = H /\ ∀ xs, SqL K H a xs -> xs[i]? = some x, fun i H => ∃ xs, SqL K H a xs /\ xs.length <= i⟩
def Itr (lo : Int) (n : Nat) : It := ⟨fun i _ => i < n, fun i H x H' => H' = H /\ x = .int (lo + i), fun i _ => n <= i⟩
theorem turn_list {P : Program} {w : World} {K : W.Frag} {tg : Expr} (a it : Addr) : Turn P w K tg (Itl K a) [it] it (fun i h => h.IsListIter it a i) where
 mem := by simp
 obj := fun i h st b hb => by
  have e : b = it := by simpa using hb
  subst e
  obtain ⟨o, e, c, d⟩ := st
  exact ⟨o, e, fun v z => by rw [d] at z; cases z⟩
 keep := fun i h h' st k => st.at fun o e => k it (by simp) o e
 item := by
  intro X hP hw hK hc i pins s σ H E I hf st hg
  subst hP hw hK
  obtain ⟨xs, x, hq, hx⟩ := hg
  obtain ⟨its, rv, p, hz⟩ := I.list hq
  obtain ⟨u, hu, ru⟩ := rv.get hx
  obtain ⟨f0, f1, f2, f3, f4, f5⟩ := hf it (by simp)
  refine wpAny_pyNext_list_item st p.isList (x := u) (by simpa using hu) fun h' st' sb => ?_
  have I1 : Inv X pins σ H { s with heap := h' } := I.turned (t' := s.toks) (fun b o hb e => (sb.2 b hb).trans e) f0 f1 f3 f4 f5
  obtain ⟨o, e, c, d⟩ := id st'
  exact ⟨u, rfl, go_of (s := { s with heap := h' }) e c d (by decide) ⟨x, H, I1, ru, ⟨rfl, fun ys hy => by rw [I.list_inj hy hq]; exact hx⟩, st', fun b hb => (hf b hb).1⟩⟩
 done := by
  intro X hP hw hK hc i pins s σ H E I hf st hg
  subst hP hw hK
  obtain ⟨xs, hq, hx⟩ := hg
  obtain ⟨its, rv, p, hz⟩ := I.list hq
  obtain ⟨f0, f1, f2, f3, f4, f5⟩ := hf it (by simp)
  have hl := rv.length
  exact wpAny_pyNext_list_end (I.ok.hd hc) st p.isList (by simp; omega) fun h' eb => ⟨rfl, I.turned (t' := s.toks) (fun b o hb e => eb b o hb e) f0 f1 f3 f4 f5⟩
 self := fun _ _ _ _ _ st h => wpAny_pyIter_listiter st h
theorem turn_range {P : Program} {w : World} {K : PySem.W.Frag} {tg : Expr} (it : Addr) (lo : Int) (n : Nat) : Turn P w K tg (Itr lo n) [it] it (fun i h => IsRangeIter h it (lo + (i : Nat) * 1) ((n : Int) - (i : Nat)) 1) where
 mem := by simp
 obj := fun i h st b hb => by
  have e : b = it := by simpa using hb
  subst e
  exact ⟨_, st, fun v z => by
   have z' : Data.fields _ = Data.cell v := z
   cases z'⟩
 keep := fun i h h' st k => k it (by simp) _ st
 item := by
  intro X hP hw hK hc i pins s σ H E I hf st hg
  subst hP hw hK
  obtain ⟨f0, f1, f2, f3, f4, f5⟩ := hf it (by simp)
  have W := Walks.range (prog := X.prog) (w := X.w) (I.ok.hd hc) it lo 1 n
  refine W.item i s _ _ hg st fun v h' tk hv st' kk => ?_
  obtain ⟨t, rfl⟩ := hv
  have I1 : Inv X pins σ H { s with heap := h', toks := tk } := I.turned (fun b o hb e => kk b o (by simpa using hb) e) f0 f1 f3 f4 f5
  refine ⟨_, rfl, go_of (s := { s with heap := h', toks := tk }) (n := "range_iterator") st' rfl rfl (by decide) ⟨.int (lo + i), H, I1, ⟨t, ?_⟩, ⟨rfl, rfl⟩, st', fun b hb => (hf b hb).1⟩⟩
  rw [Int.mul_one]
 done := by
  intro X hP hw hK hc i pins s σ H E I hf st hg
  subst hP hw hK
  obtain ⟨f0, f1, f2, f3, f4, f5⟩ := hf it (by simp)
  exact wpAny_pyNext_range_end (I.ok.hd hc) st (by have : n <= i := hg; omega) fun h' eb => ⟨rfl, I.turned (t' := s.toks) (fun b o hb e => eb b o hb e) f0 f1 f3 f4 f5⟩
 self := fun _ _ _ _ _ st h => wpAny_pyIter_rangeiter st h
end
section
section
variable {X : Cx} {tg : Expr}
def iList (K : W.Frag) (tl : TE) : TI := fun σ H R => tl σ H fun x H1 => ∃ a, x = .ref a /\ (∃ xs, SqL K H1 a xs) /\ R (Itl K a) H1
theorem pi_list {l : Expr} {tl : TE} (hl : PE X l tl) : PI X tg l (iList X.K tl) := by
 intro pins s σ H R I h
 refine thn (hl pins s σ H _ I h) fun v s1 hpat => ?_
 obtain ⟨x, H1, I1, r1, q1⟩ := hpat
 obtain ⟨a, e, ⟨xs, hq⟩, q⟩ := q1
 subst e
 cases r1
 obtain ⟨its, rv, p, hz⟩ := I1.list hq
 refine wpAny_pyIter_list p.isList ?_
 refine ⟨s1.heap.objs.size, [s1.heap.objs.size], _, _, H1, rfl, I1.kept (t' := s1.toks) fun b o e => Heap.get?_push_of_some _ e, turn_list a _, ⟨_, Heap.get?_push_size _ rfl, rfl, rfl⟩, fun b hb => ?_, q⟩
 have e : b = s1.heap.objs.size := by simpa using hb
 subst e
 exact I1.fpOk (Nat.le_refl _) (I1.hok.fresh (Nat.le_refl _))
theorem range_it {pins : List (Addr × Obj)} {σ : St} {H : Hp} {s : Shared} {R : It -> Hp -> Prop} {E : Value -> Shared -> Prop} {lo hi : Int} {t u v : Tok} {tk : Nat} (I : Inv X pins σ H s) (h1 : -(2 ^ 62) <= lo) (h2 : lo < 2 ^ 62) (h3 : -(2 ^ 62) <= hi) (h4 : hi < 2 ^ 62)
  (q : R (Itr lo (hi - lo).toNat) H) : wpAny (model X.prog X.w) X.A (pyIter (.ref s.heap.objs.size)) (PIE X pins σ tg R) E { s with heap := s.heap.push { cls := .type "range", data := .fields #[.int lo t, .int hi u, .int 1 v] }, toks := tk } := by
 refine wpAny_pyIter_range (IsRange.new ..) (small_one h1 h2 h3 h4) ?_
 have I1 : Inv X pins σ H { s with heap := s.heap.push { cls := .type "range", data := .fields #[.int lo t, .int hi u, .int 1 v] }, toks := tk } := I.kept fun b o e => Heap.get?_push_of_some _ e
 refine ⟨(s.heap.push { cls := .type "range", data := .fields #[.int lo t, .int hi u, .int 1 v] }).objs.size, [(s.heap.push { cls := .type "range", data := .fields #[.int lo t, .int hi u, .int 1 v] }).objs.size], _, _, H, rfl,
  I1.kept (t' := tk) fun b o e => Heap.get?_push_of_some _ e, turn_range _ lo (hi - lo).toNat, ?_, fun b hb => ?_, q⟩
 ·have e1 : lo + ((0 : Nat) : Int) * 1 = lo := by simp
  have e2 : (((hi - lo).toNat : Nat) : Int) - ((0 : Nat) : Int) = Builtin.Range.rangeSize lo hi 1 := by rw [rangeSize_one]; split <;> omega
  show IsRangeIter _ _ (lo + ((0 : Nat) : Int) * 1) ((((hi - lo).toNat : Nat) : Int) - ((0 : Nat) : Int)) 1
  rw [e1, e2]
  exact Heap.get?_push_size _ rfl
 ·have e : b = (s.heap.push { cls := .type "range", data := .fields #[.int lo t, .int hi u, .int 1 v] }).objs.size := by simpa using hb
  subst e
  exact I1.fpOk (Nat.le_refl _) (I1.hok.fresh (Nat.le_refl _))
def iRng1 (ta : TA) : TI := fun σ H R => ta σ H fun vs H1 => ∃ j : Int, vs = [.int j] /\ -(2 ^ 62) <= j /\ j < 2 ^ 62 /\ R (Itr 0 j.toNat) H1
def iRng2 (ta : TA) : TI := fun σ H R => ta σ H fun vs H1 => ∃ i j : Int, vs = [.int i, .int j] /\ (-(2 ^ 62) <= i /\ i < 2 ^ 62 /\ -(2 ^ 62) <= j /\ j < 2 ^ 62) /\ R (Itr i (j - i).toNat) H1
theorem pi_range1 {a : Expr} {ta : TA} {p pos : Pos} (hg : Gl X "range") (hm : X.mg "range" = none) (ha : PA X [a] ta) (hs : starEach [a] X.env = [(false, eval a X.env)] := by rfl) : PI X tg (.Call (.Name "range" p) [a] [] pos) (iRng1 ta) := by
 intro pins s σ H R I h
 refine Call_ (ld_blt I hg hm boot_range (PyProof.Rows.callWith_type1 (thn (ha pos pins s σ H _ I h) fun us s1 hpat => ?_) hs rfl))
 obtain ⟨vs, H1, I1, r1, q1⟩ := hpat
 obtain ⟨j, e, q1, q2, q⟩ := q1
 subst e
 cases r1 with
 | cons r rr =>
  cases rr
  obtain ⟨t, rfl⟩ := r
  exact call_range_1 (range_it I1 (by omega) (by omega) q1 q2 (by simpa using q))
theorem pi_range2 {a b : Expr} {ta : TA} {p pos : Pos} (hg : Gl X "range") (hm : X.mg "range" = none) (ha : PA X [a, b] ta) (hs : starEach [a, b] X.env = [(false, eval a X.env), (false, eval b X.env)] := by rfl) (hs2 : starEach [b] X.env = [(false, eval b X.env)] := by rfl) :
  PI X tg (.Call (.Name "range" p) [a, b] [] pos) (iRng2 ta) := by
 intro pins s σ H R I h
 refine Call_ (ld_blt I hg hm boot_range (PyProof.Rows.callWith_type1 (thn (ha pos pins s σ H _ I h) fun us s1 hpat => ?_) (by rw [hs, hs2]) (by rw [hs2]; rfl)))
 obtain ⟨vs, H1, I1, r1, q1⟩ := hpat
 obtain ⟨i, j, e, ⟨q1, q2, q3, q4⟩, q⟩ := q1
 subst e
 cases r1 with
 | cons r rr =>
  cases rr with
  | cons r' rr =>
   cases rr
   obtain ⟨t, rfl⟩ := r
   obtain ⟨t', rfl⟩ := r'
   exact call_range_2 (range_it I1 q1 q2 q3 q4 q)
def tFor (wi : TI) (g : TG) (tb : TS) : TS := fun D σ H => wi σ H fun J H1 => ∃ W : Nat -> Nat -> St -> Hp -> Prop, (∃ m, W 0 m σ H1) /\ ∀ i m σ H, W i m σ H ->
 (J.stop i H /\ D.nx σ H) \/ (J.go i H /\ ∃ N : St -> Hp -> Prop, (∀ σ' H', N σ' H' -> ∃ m', m' < m /\ W (i + 1) m' σ' H') /\ ∀ x H', J.yld i H x H' -> g x σ H' fun σ2 H2 => tb { D with nx := N, ct := N, bk := D.nx } σ2 H2)
def pinsAt (fp : List Addr) (h : Heap) : List (Addr × Obj) := fp.filterMap fun b => (h.get? b).map fun o => (b, o)
theorem mem_pinsAt {fp : List Addr} {h : Heap} {b : Addr} {o : Obj} (hb : b ∈ fp) (e : h.get? b = some o) : (b, o) ∈ pinsAt fp h := List.mem_filterMap.mpr ⟨b, hb, by rw [e]; rfl⟩
theorem of_pinsAt {fp : List Addr} {h : Heap} {p : Addr × Obj} (hp : p ∈ pinsAt fp h) : p.1 ∈ fp /\ h.get? p.1 = some p.2 := by
 obtain ⟨b, hb, e⟩ := List.mem_filterMap.mp hp
 cases q : h.get? b with
 | none => rw [q] at e; cases e
 | some o =>
  rw [q] at e
  have e' : (b, o) = p := Option.some.inj e
  subst e'
  exact ⟨hb, q⟩
theorem Inv.pinned {pins : List (Addr × Obj)} {σ : St} {H : Hp} {s : Shared} {fp : List Addr} (I : Inv X pins σ H s) (hf : ∀ b ∈ fp, FpOk X pins H b) (ho : ∀ b ∈ fp, ∃ o, s.heap.get? b = some o /\ ∀ v, o.data ≠ .cell v) : Inv X (pins ++ pinsAt fp s.heap) σ H s :=
 I.pins_of fun p hp => (List.mem_append.mp hp).elim (fun z => I.pin p (mem_append_right _ z)) fun z => by
  obtain ⟨hb, e⟩ := of_pinsAt z
  obtain ⟨f0, f1, f2, _⟩ := hf p.1 hb
  obtain ⟨o, e', d⟩ := ho p.1 hb
  rw [e] at e'; cases e'
  exact ⟨e, f0, f1, f2, d⟩
theorem Inv.unpinned {pins pl : List (Addr × Obj)} {σ : St} {H : Hp} {s : Shared} (I : Inv X (pins ++ pl) σ H s) : Inv X pins σ H s := I.pins_of fun p hp => I.pin p (mem_append_right _ (mem_append_left _ hp))
theorem ps_for {iter : Expr} {body : List Stmt} {wi : TI} {g : TG} {tb : TS} {pos : Pos} (hp : PassesOwn (model X.prog X.w) X.A X.env X.xe) (hc : X.calm = true) (hi : PI X tg iter wi) (hg : PG X tg g) (hb : PSs X body tb)
  (hs : ∀ x, foldedSetIterable iter X.env x = pure x := by intro _; rfl) : PS X (.For tg iter body [] pos) (tFor wi g tb) := by
 intro pins s σ H D I h
 refine wpAny_For (thn (hi pins s σ H _ I h) fun v s1 h1 => thn h1 fun itv s2 h2 => ?_) hs
 obtain ⟨it, fp, tn, J, H2, e, I2, T, st2, f2, W, ⟨m0, w0⟩, turn⟩ := h2
 subst e
 have stat : ∀ {H' : Hp}, (∀ b ∈ fp, H' b = none) -> ∀ b ∈ fp, FpOk X pins H' b := fun hn b hb => ⟨hn b hb, (f2 b hb).2⟩
 refine codeAny_forLoop_any (fun n s' => ∃ i σ' H', Inv X pins σ' H' s' /\ tn i s'.heap /\ (∀ b ∈ fp, H' b = none) /\ W i n σ' H') ?_ m0 ⟨0, σ, H2, I2, st2, fun b hb => (f2 b hb).1, w0⟩
 rintro n s3 ⟨i, σ3, H3, I3, st3, fr3, w3⟩
 rcases turn i n σ3 H3 w3 with ⟨stop, qn⟩ | ⟨go, N, hN, step⟩
 ·refine wpAny_passesOwn hp (thn (T.done X rfl rfl rfl hc i pins s3 σ3 H3 X.xe I3 (stat fr3) st3 stop) fun r s4 ⟨hr, I4⟩ => ?_)
  subst hr
  exact wpAny_execs_nil ⟨σ3, H3, I4, qn⟩
 ·refine wpAny_passesOwn hp (thn (T.item X rfl rfl rfl hc i pins s3 σ3 H3 X.xe I3 (stat fr3) st3 go) fun r s4 ⟨u, hr, h4⟩ => ?_)
  subst hr
  refine wpAny_passesOwn hp (thn h4 fun _ s5 hpat => ?_)
  obtain ⟨x, H5, I5, r5, y5, st5, fr5⟩ := hpat
  have I5' := I5.pinned (stat fr5) (T.obj _ _ st5)
  refine wpAny_passesOwn hp (thn (hg _ s5 σ3 H5 x u _ I5' r5 (step x H5 y5)) fun _ s6 hpat => ?_)
  obtain ⟨σ6, H6, I6, q6⟩ := hpat
  refine wpAny_passesOwn hp (thn (hb _ s6 σ6 H6 _ I6 q6) fun f s7 q7 => ?_)
  have again : ∀ {σ7 : St} {H7 : Hp}, Inv X (pins ++ pinsAt fp s5.heap) σ7 H7 s7 -> N σ7 H7 -> ∃ m, m < n /\ ∃ i σ' H', Inv X pins σ' H' s7 /\ tn i s7.heap /\ (∀ b ∈ fp, H' b = none) /\ W i m σ' H' := fun {σ7 H7} I7 n7 => by
   obtain ⟨m', hm, w7⟩ := hN σ7 H7 n7
   refine ⟨m', hm, i + 1, σ7, H7, I7.unpinned, T.keep _ _ _ st5 fun b hb o e => (I7.pin (b, o) (mem_append_right _ (mem_append_right _ (mem_pinsAt hb e)))).1, fun b hb => ?_, w7⟩
   obtain ⟨o, e, d⟩ := T.obj _ _ st5 b hb
   exact (I7.pin (b, o) (mem_append_right _ (mem_append_right _ (mem_pinsAt hb e)))).2.1
  cases f with
  | next => obtain ⟨σ7, H7, I7, n7⟩ := q7; exact again I7 n7
  | cont => obtain ⟨σ7, H7, I7, n7⟩ := q7; exact again I7 n7
  | brk => obtain ⟨σ7, H7, I7, q7⟩ := q7; exact ⟨σ7, H7, I7.unpinned, q7⟩
  | ret v => obtain ⟨x7, σ7, H7, I7, r7, q7⟩ := q7; exact ⟨x7, σ7, H7, I7.unpinned, r7, q7⟩
end
end
section
abbrev R2 := V -> V -> Hp -> VK -> Prop
def OpR (X : Cx) (f : Value -> Value -> Sem Value) (r : R2) : Prop :=
 ∀ (pins : List (Addr × Obj)) (s : Shared) (σ : St) (H : Hp) (x y : V) (v u : Value) (Q : VK), Inv X pins σ H s -> RelV x v -> RelV y u -> r x y H Q ->
  wpAny (model X.prog X.w) X.A (f v u) (EP X pins σ Q) X.xe s
def UnR (X : Cx) (f : Value -> Sem Value) (r : V -> Hp -> VK -> Prop) : Prop :=
 ∀ (pins : List (Addr × Obj)) (s : Shared) (σ : St) (H : Hp) (x : V) (v : Value) (Q : VK), Inv X pins σ H s -> RelV x v -> r x H Q ->
  wpAny (model X.prog X.w) X.A (f v) (EP X pins σ Q) X.xe s
def CallR (X : Cx) (f : Value) (r : List V -> Hp -> VK -> Prop) : Prop :=
 ∀ (pins : List (Addr × Obj)) (s : Shared) (σ : St) (H : Hp) (xs : List V) (us : List Value) (Q : VK), Inv X pins σ H s -> Vals xs us -> r xs H Q ->
  wpAny (model X.prog X.w) X.A (call f us) (EP X pins σ Q) X.xe s
def TruR (X : Cx) (r : V -> Hp -> (Bool -> Hp -> Prop) -> Prop) : Prop :=
 ∀ (pins : List (Addr × Obj)) (s : Shared) (σ : St) (H : Hp) (x : V) (v : Value) (Q : Bool -> Hp -> Prop), Inv X pins σ H s -> RelV x v -> r x H Q ->
  wpAny (model X.prog X.w) X.A (truthy v) (TP X pins σ Q) X.xe s
def tOp (r : R2) (ta tb : TE) : TE := fun σ H Q => ta σ H fun x H1 => tb σ H1 fun y H2 => r x y H2 Q
def tUn (r : V -> Hp -> VK -> Prop) (ta : TE) : TE := fun σ H Q => ta σ H fun x H1 => r x H1 Q
def rI (C : Int -> Int -> Prop) (g : Int -> Int -> V) : R2 := fun x y H Q => ∃ i j, x = .int i /\ y = .int j /\ C i j /\ Q (g i j) H
def rI0 (g : Int -> Int -> V) : R2 := fun x y H Q => ∃ i j, x = .int i /\ y = .int j /\ Q (g i j) H
def rU (g : Int -> V) : V -> Hp -> VK -> Prop := fun x H Q => ∃ i, x = .int i /\ Q (g i) H
section
variable {X : Cx} {a b c : Expr} {ta tb tc : TE} {pos : Pos}
theorem binT (ha : PE X a ta) (hb : PE X b tb) {pins : List (Addr × Obj)} {s : Shared} {σ : St} {H : Hp} {R : V -> V -> Hp -> Prop} (I : Inv X pins σ H s)
  (h : ta σ H fun x H1 => tb σ H1 fun y H2 => R x y H2) {Q : Value -> Shared -> Prop} {f : Value -> Value -> Sem Value}
  (hf : ∀ v u s2 x y H2, Inv X pins σ H2 s2 -> RelV x v -> RelV y u -> R x y H2 -> wpAny (model X.prog X.w) X.A (f v u) Q X.xe s2) :
  wpAny (model X.prog X.w) X.A (eval a X.env) (fun v s₁ => wpAny (model X.prog X.w) X.A (eval b X.env) (fun u s₂ => wpAny (model X.prog X.w) X.A (f v u) Q X.xe s₂) X.xe s₁) X.xe s := by
 refine thn (ha pins s σ H _ I h) fun v s1 hpat => ?_
 obtain ⟨x, H1, I1, r1, q1⟩ := hpat
 refine thn (hb pins s1 σ H1 _ I1 q1) fun u s2 hpat => ?_
 obtain ⟨y, H2, I2, r2, q2⟩ := hpat
 exact hf v u s2 x y H2 I2 r1 r2 q2
theorem pe_op {op : Operator} {r : R2} (ho : OpR X (binaryOp op) r) (ha : PE X a ta) (hb : PE X b tb) : PE X (.BinOp a op b pos) (tOp r ta tb) := by
 intro pins s σ H Q I h
 exact wpAny_BinOp (binT ha hb I h fun v u s2 x y H2 I2 rx ry q => ho pins s2 σ H2 x y v u Q I2 rx ry q)
theorem pe_un {op : UnaryOp} {r : V -> Hp -> VK -> Prop} (ho : UnR X (unaryOp op) r) (ha : PE X a ta) : PE X (.UnaryOp op a pos) (tUn r ta) := by
 intro pins s σ H Q I h
 exact UnaryOp_ (thn (ha pins s σ H _ I h) fun v s1 ⟨x, H1, I1, r1, q1⟩ => ho pins s1 σ H1 x v Q I1 r1 q1)
theorem opI {f : Value -> Value -> Sem Value} {C : Int -> Int -> Prop} {g : Int -> Int -> Int}
  (rule : ∀ (i j : Int) (t u : Tok) (s : Shared) (Q : Value -> Shared -> Prop) (E : Value -> Shared -> Prop), C i j -> Q (.int (g i j) s.toks) { s with toks := s.toks + 1 } -> wpAny (model X.prog X.w) X.A (f (.int i t) (.int j u)) Q E s) :
  OpR X f (rI C fun i j => .int (g i j)) := by
 intro pins s σ H x y v u Q I rx ry h
 obtain ⟨i, j, rfl, rfl, hc, q⟩ := h
 obtain ⟨t, rfl⟩ := rx
 obtain ⟨t', rfl⟩ := ry
 exact rule i j t t' s _ _ hc ⟨.int (g i j), H, I.tok _, ⟨_, rfl⟩, q⟩
theorem opI0 {f : Value -> Value -> Sem Value} {g : Int -> Int -> Int}
  (rule : ∀ (i j : Int) (t u : Tok) (s : Shared) (Q : Value -> Shared -> Prop) (E : Value -> Shared -> Prop), Q (.int (g i j) s.toks) { s with toks := s.toks + 1 } -> wpAny (model X.prog X.w) X.A (f (.int i t) (.int j u)) Q E s) :
  OpR X f (rI0 fun i j => .int (g i j)) := by
 intro pins s σ H x y v u Q I rx ry h
 obtain ⟨i, j, rfl, rfl, q⟩ := h
 obtain ⟨t, rfl⟩ := rx
 obtain ⟨t', rfl⟩ := ry
 exact rule i j t t' s _ _ ⟨.int (g i j), H, I.tok _, ⟨_, rfl⟩, q⟩
theorem opB0 {f : Value -> Value -> Sem Value} {g : Int -> Int -> Bool}
  (rule : ∀ (i j : Int) (t u : Tok) (s : Shared) (Q : Value -> Shared -> Prop) (E : Value -> Shared -> Prop), Q (.bool (g i j)) s -> wpAny (model X.prog X.w) X.A (f (.int i t) (.int j u)) Q E s) :
  OpR X f (rI0 fun i j => .bl (g i j)) := by
 intro pins s σ H x y v u Q I rx ry h
 obtain ⟨i, j, rfl, rfl, q⟩ := h
 obtain ⟨t, rfl⟩ := rx
 obtain ⟨t', rfl⟩ := ry
 exact rule i j t t' s _ _ ⟨.bl (g i j), H, I, rfl, q⟩
def CDiv (i j : Int) : Prop := 0 < j /\ j < 1073741824
def CPow (i j : Int) : Prop := 0 <= j /\ j <= 1000000 /\ i.natAbs < 2 ^ 64
def CMul (i j : Int) : Prop := (-(2 ^ 64) < i /\ i < 2 ^ 64) \/ (-(2 ^ 64) < j /\ j < 2 ^ 64)
theorem CMul.ok {i j : Int} (h : CMul i j) : IntMulOk i j := by
 rcases h with ⟨h1, h2⟩ | ⟨h1, h2⟩
 ·exact .of_left (intBits_le_64 h1 h2)
 ·exact .of_right (intBits_le_64 h1 h2)
theorem two_pow_nn (k : Nat) : (0 : Int) <= 2 ^ k := by
 rw [two_pow_cast]
 exact Int.natCast_nonneg _
theorem op_add : OpR X (binaryOp .Add) (rI0 fun i j => .int (i + j)) := opI0 fun _ _ _ _ _ _ _ q => add_int q
theorem op_sub : OpR X (binaryOp .Sub) (rI0 fun i j => .int (i - j)) := opI0 fun _ _ _ _ _ _ _ q => sub_int q
theorem op_mul : OpR X (binaryOp .Mult) (rI CMul fun i j => .int (i * j)) := opI fun _ _ _ _ _ _ _ hc q => mul_int q hc.ok
theorem op_fdiv : OpR X (binaryOp .FloorDiv) (rI CDiv fun i j => .int (i / j)) := opI fun i j _ _ _ _ _ hc q => by
 have h1 : (0 : Int) < j := hc.1
 have h2 : j < 1073741824 := hc.2
 exact floordiv_int (by omega) (by rw [Int.fdiv_eq_ediv_of_nonneg i (by omega)]; exact q) (.inl (PyProof.noPylong_small (by omega)))
theorem op_mod : OpR X (binaryOp .Mod) (rI (fun _ j => 0 < j) fun i j => .int (i % j)) := opI fun i j _ _ _ _ _ hc q => by
 have h1 : (0 : Int) < j := hc
 exact mod_int' (by omega) (by rw [Int.fmod_eq_emod_of_nonneg i (by omega)]; exact q)
theorem op_pow : OpR X (binaryOp .Pow) (rI CPow fun i j => .int (i ^ j.toNat)) := opI fun _ _ _ _ _ _ _ hc q => pow_int_small hc.1 hc.2.1 hc.2.2 q
theorem op_shl : OpR X (binaryOp .LShift) (rI CPow fun i j => .int (i * 2 ^ j.toNat)) := opI fun _ _ _ _ _ _ _ hc q => lshift_int_small hc.1 hc.2.1 hc.2.2 q
theorem op_shr : OpR X (binaryOp .RShift) (rI (fun _ j => 0 <= j) fun i j => .int (i / 2 ^ j.toNat)) := opI fun i j _ _ _ _ _ hc q =>
 rshift_int hc (by rw [Int.fdiv_eq_ediv_of_nonneg i (two_pow_nn _)]; exact q)
theorem op_and : OpR X (binaryOp .BitAnd) (rI0 fun i j => .int (Builtin.bitAnd i j)) := opI0 fun _ _ _ _ _ _ _ q => and_int q
theorem unI {f : Value -> Sem Value} {g : Int -> Int}
  (rule : ∀ (i : Int) (t : Tok) (s : Shared) (Q : Value -> Shared -> Prop) (E : Value -> Shared -> Prop), Q (.int (g i) s.toks) { s with toks := s.toks + 1 } -> wpAny (model X.prog X.w) X.A (f (.int i t)) Q E s) :
  UnR X f (rU fun i => .int (g i)) := by
 intro pins s σ H x v Q I rx h
 obtain ⟨i, rfl, q⟩ := h
 obtain ⟨t, rfl⟩ := rx
 exact rule i t s _ _ ⟨.int (g i), H, I.tok _, ⟨_, rfl⟩, q⟩
theorem un_neg : UnR X (unaryOp .USub) (rU fun i => .int (-i)) := unI fun _ _ _ _ _ q => neg_int q
end
def scal : V -> V -> Bool
 | .non, .non => true | .non, .int _ => true | .int _, .non => true | .non, .bl _ => true | .bl _, .non => true | .non, .str _ => true | .str _, .non => true
 | .int _, .int _ => true | .bl _, .bl _ => true | .str _, .str _ => true | .byt _, .byt _ => true
 | .int _, .str _ => true | .str _, .int _ => true | .bl _, .str _ => true | .str _, .bl _ => true
 | _, _ => false
def rEq : R2 := fun x y H Q => scal x y = true /\ Q (.bl (decide (x = y))) H
def rNe : R2 := fun x y H Q => scal x y = true /\ Q (.bl (!decide (x = y))) H
theorem dec_int {i j : Int} : decide (V.int i = V.int j) = (i == j) := by
 rw [Bool.eq_iff_iff]
 simp
theorem dec_bl {i j : Bool} : decide (V.bl i = V.bl j) = (i == j) := by
 rw [Bool.eq_iff_iff]
 simp
theorem dec_str {i j : Str} : decide (V.str i = V.str j) = (i == j) := by
 rw [Bool.eq_iff_iff]
 simp
theorem dec_byt {i j : Array UInt8} : decide (V.byt i = V.byt j) = (i.toList == j.toList) := by
 rw [Bool.eq_iff_iff]
 cases i
 cases j
 simp
section
variable {X : Cx} {a b c : Expr} {ta tb tc : TE} {pos : Pos}
theorem fin_bl {pins : List (Addr × Obj)} {σ : St} {H : Hp} {s : Shared} {Q : VK} {k k' : Bool} (I : Inv X pins σ H s) (q : Q (.bl k) H) (e : k = k') : EP X pins σ Q (.bool k') s := by
 subst e
 exact ⟨.bl k, H, I, rfl, q⟩
theorem op_eq : OpR X (compareOp .Eq) rEq := by
 intro pins s σ H x y v u Q I rx ry h
 obtain ⟨hs, q⟩ := h
 cases x with
 | non =>
  cases rx
  cases y with
  | non => cases ry; exact PySem.EqNone.eq_none_none (fin_bl I q (by simp))
  | bl j => cases ry; exact PySem.EqNone.eq_none_bool (fin_bl I q (by simp))
  | int j => obtain ⟨t', rfl⟩ := ry; exact PySem.EqNone.eq_none_int (fin_bl I q (by simp))
  | str j => obtain ⟨t', rfl⟩ := ry; exact PySem.EqNone.eq_none_str (fin_bl I q (by simp))
  | _ => exact absurd (show false = true from hs) Bool.false_ne_true
 | bl i =>
  cases rx
  cases y with
  | non => cases ry; exact PySem.EqNone.eq_bool_none (fin_bl I q (by simp))
  | bl j => cases ry; exact eq_bool (fin_bl I q dec_bl)
  | str j => obtain ⟨t', rfl⟩ := ry; exact PySem.EqMixed.eq_bool_str (fin_bl I q (by simp))
  | _ => exact absurd (show false = true from hs) Bool.false_ne_true
 | int i =>
  obtain ⟨t, rfl⟩ := rx
  cases y with
  | non => cases ry; exact PySem.EqNone.eq_int_none (fin_bl I q (by simp))
  | int j => obtain ⟨t', rfl⟩ := ry; exact eq_int (fin_bl I q dec_int)
  | str j => obtain ⟨t', rfl⟩ := ry; exact PySem.EqMixed.eq_int_str (fin_bl I q (by simp))
  | _ => exact absurd (show false = true from hs) Bool.false_ne_true
 | str i =>
  obtain ⟨t, rfl⟩ := rx
  cases y with
  | non => cases ry; exact PySem.EqNone.eq_str_none (fin_bl I q (by simp))
  | bl j => cases ry; exact PySem.EqMixed.eq_str_bool (fin_bl I q (by simp))
  | int j => obtain ⟨t', rfl⟩ := ry; exact PySem.EqMixed.eq_str_int (fin_bl I q (by simp))
  | str j => obtain ⟨t', rfl⟩ := ry; exact eq_str (fin_bl I q dec_str)
  | _ => exact absurd (show false = true from hs) Bool.false_ne_true
 | byt i =>
  obtain ⟨t, rfl⟩ := rx
  cases y with
  | byt j => obtain ⟨t', rfl⟩ := ry; exact W.eq_bytes (fin_bl I q dec_byt)
  | _ => exact absurd (show false = true from hs) Bool.false_ne_true
 | _ => cases y <;> exact absurd (show false = true from hs) Bool.false_ne_true
theorem op_ne : OpR X (compareOp .NotEq) rNe := by
 intro pins s σ H x y v u Q I rx ry h
 obtain ⟨hs, q⟩ := h
 cases x with
 | non =>
  cases rx
  cases y with
  | non => cases ry; exact PySem.EqNone.ne_none_none (fin_bl I q (by simp))
  | bl j => cases ry; exact PySem.EqNone.ne_none_bool (fin_bl I q (by simp))
  | int j => obtain ⟨t', rfl⟩ := ry; exact PySem.EqNone.ne_none_int (fin_bl I q (by simp))
  | str j => obtain ⟨t', rfl⟩ := ry; exact PySem.EqNone.ne_none_str (fin_bl I q (by simp))
  | _ => exact absurd (show false = true from hs) Bool.false_ne_true
 | bl i =>
  cases rx
  cases y with
  | non => cases ry; exact PySem.EqNone.ne_bool_none (fin_bl I q (by simp))
  | bl j => cases ry; exact ne_bool (fin_bl I q (congrArg not dec_bl))
  | str j => obtain ⟨t', rfl⟩ := ry; exact PySem.EqMixed.ne_bool_str (fin_bl I q (by simp))
  | _ => exact absurd (show false = true from hs) Bool.false_ne_true
 | int i =>
  obtain ⟨t, rfl⟩ := rx
  cases y with
  | non => cases ry; exact PySem.EqNone.ne_int_none (fin_bl I q (by simp))
  | int j => obtain ⟨t', rfl⟩ := ry; exact ne_int (fin_bl I q (congrArg not dec_int))
  | str j => obtain ⟨t', rfl⟩ := ry; exact PySem.EqMixed.ne_int_str (fin_bl I q (by simp))
  | _ => exact absurd (show false = true from hs) Bool.false_ne_true
 | str i =>
  obtain ⟨t, rfl⟩ := rx
  cases y with
  | non => cases ry; exact PySem.EqNone.ne_str_none (fin_bl I q (by simp))
  | bl j => cases ry; exact PySem.EqMixed.ne_str_bool (fin_bl I q (by simp))
  | int j => obtain ⟨t', rfl⟩ := ry; exact PySem.EqMixed.ne_str_int (fin_bl I q (by simp))
  | str j => obtain ⟨t', rfl⟩ := ry; exact ne_str (fin_bl I q (congrArg not dec_str))
  | _ => exact absurd (show false = true from hs) Bool.false_ne_true
 | byt i =>
  obtain ⟨t, rfl⟩ := rx
  cases y with
  | byt j => obtain ⟨t', rfl⟩ := ry; exact W.ne_bytes (fin_bl I q (congrArg not dec_byt))
  | _ => exact absurd (show false = true from hs) Bool.false_ne_true
 | _ => cases y <;> exact absurd (show false = true from hs) Bool.false_ne_true
theorem op_lt : OpR X (compareOp .Lt) (rI0 fun i j => .bl (decide (i < j))) := opB0 fun _ _ _ _ _ _ _ q => lt_int q
theorem op_le : OpR X (compareOp .LtE) (rI0 fun i j => .bl (decide (i <= j))) := opB0 fun _ _ _ _ _ _ _ q => le_int q
theorem op_gt : OpR X (compareOp .Gt) (rI0 fun i j => .bl (decide (j < i))) := opB0 fun _ _ _ _ _ _ _ q => gt_int q
theorem op_ge : OpR X (compareOp .GtE) (rI0 fun i j => .bl (decide (j <= i))) := opB0 fun _ _ _ _ _ _ _ q => ge_int q
theorem OpR.or {f : Value -> Value -> Sem Value} {r r' : R2} (h : OpR X f r) (h' : OpR X f r') : OpR X f (fun x y H Q => r x y H Q \/ r' x y H Q) := by
 intro pins s σ H x y v u Q I rx ry q
 rcases q with q | q
 ·exact h pins s σ H x y v u Q I rx ry q
 ·exact h' pins s σ H x y v u Q I rx ry q
theorem nomark (b : Expr) {op : CmpOp} (h : op ≠ .In := by decide) (h2 : op ≠ .NotIn := by decide) : behindInMarks op b = false := by
 have e1 : (op == CmpOp.In) = false := by cases op <;> first | rfl | exact absurd rfl h
 have e2 : (op == CmpOp.NotIn) = false := by cases op <;> first | rfl | exact absurd rfl h2
 cases b <;> simp [behindInMarks, e1, e2]
theorem pe_cmpR {op : CmpOp} {r : R2} (ho : OpR X (compareOp op) r) (ha : PE X a ta) (hb : PE X b tb) (hm : behindInMarks op b = false) : PE X (.Compare a [op] [b] pos) (tOp r ta tb) := by
 intro pins s σ H Q I h
 exact wpAny_Compare1 (binT ha hb I h fun v u s2 x y H2 I2 rx ry q => ho pins s2 σ H2 x y v u Q I2 rx ry q) hm
def tTest (t : TE) : TT := fun σ H Q => t σ H fun x H' => ∃ k, x = .bl k /\ Q k H'
theorem pt_cmpR {op : CmpOp} {r : R2} (ho : OpR X (compareOp op) r) (ha : PE X a ta) (hb : PE X b tb) (hm : behindInMarks op b = false) : PT X (.Compare a [op] [b] pos) (tTest (tOp r ta tb)) := by
 intro pins s σ H Q I h
 refine wpAny_isTrue_Compare1 (thn (ha pins s σ H _ I h) fun v s1 ⟨x, H1, I1, r1, q1⟩ => thn (hb pins s1 σ H1 _ I1 q1) fun u s2 ⟨y, H2, I2, r2, q2⟩ =>
  thn (ho pins s2 σ H2 x y v u _ I2 r1 r2 q2) fun c s3 ⟨z, H3, I3, r3, k, e, q3⟩ => ?_) hm
 subst e
 cases r3
 exact wpAny_truthy_bool ⟨H3, I3, q3⟩
def TruV (K : W.Frag) (x : V) (H : Hp) (k : Bool) : Prop :=
 match x with
 | .non => k = false
 | .bl b => k = b
 | .int i => k = (i != 0)
 | .str y => y.length <= sizeLine /\ k = ((y.length : Int) != 0)
 | .byt y => y.size <= sizeLine /\ k = ((y.size : Int) != 0)
 | .ref p => (∃ xs, SqL K H p xs /\ k = !xs.isEmpty) \/ (∃ xs, SqT K H p xs /\ k = !xs.isEmpty) \/ ∃ kvs, H p = some (.dK kvs) /\ k = !kvs.isEmpty
 | _ => False
theorem isEmpty_kv {κ : Type} {kvs : List (κ × V)} {vs : List (κ × Value)} (r : KV kvs vs) : (!vs.isEmpty) = !kvs.isEmpty := by
 cases r <;> rfl
theorem isEmpty_of {xs : List V} {its : List Value} (r : Vals xs its) : (!its.toArray.isEmpty) = !xs.isEmpty := by
 cases r <;> simp
theorem line63 : (sizeLine : Nat) < 2 ^ 63 := by rw [sizeLine_eq]; decide
theorem tru_ok : TruR X (fun x H Q => ∃ k, TruV X.K x H k /\ Q k H) := by
 intro pins s σ H x v Q I rx h
 obtain ⟨k, e, q⟩ := h
 have hl := line63
 have hs : sizeLine = 16777216 := sizeLine_eq
 cases x with
 | non =>
  cases rx
  have e' : k = false := e
  subst e'
  exact truthy_none ⟨H, I, q⟩
 | bl b =>
  cases rx
  have e' : k = b := e
  subst e'
  exact wpAny_truthy_bool ⟨H, I, q⟩
 | int i =>
  obtain ⟨t, rfl⟩ := rx
  have e' : k = (i != 0) := e
  subst e'
  exact PySem.P.truthy_int ⟨H, I, q⟩
 | str y =>
  obtain ⟨t, rfl⟩ := rx
  obtain ⟨hy, e'⟩ : y.length <= sizeLine /\ k = ((y.length : Int) != 0) := e
  subst e'
  exact PySem.P.truthy_str (by omega) ⟨H, I.tok _, q⟩
 | byt y =>
  obtain ⟨t, rfl⟩ := rx
  obtain ⟨hy, e'⟩ : y.size <= sizeLine /\ k = ((y.size : Int) != 0) := e
  subst e'
  exact W.truthy_bytes (by omega) ⟨H, I.tok _, q⟩
 | ref p =>
  cases rx
  have e' : (∃ xs, SqL X.K H p xs /\ k = !xs.isEmpty) \/ (∃ xs, SqT X.K H p xs /\ k = !xs.isEmpty) \/ ∃ kvs, H p = some (.dK kvs) /\ k = !kvs.isEmpty := e
  rcases e' with ⟨xs, hx, e'⟩ | ⟨xs, hx, e'⟩ | ⟨kvs, hx, e'⟩
  ·subst e'
   obtain ⟨its, r, pl, hz⟩ := I.list hx
   have hlen := r.length
   exact wpAny_truthy_list pl.isList (by simp only [size_toArray]; omega) ⟨H, I.tok _, by rw [isEmpty_of r]; exact q⟩
  ·subst e'
   obtain ⟨its, r, pl, hz⟩ := I.tuple hx
   have hlen := r.length
   exact truthy_tuple pl (by simp only [size_toArray]; omega) ⟨H, I.tok _, by rw [isEmpty_of r]; exact q⟩
  ·subst e'
   obtain ⟨hz, hS, vs, r, m⟩ : kvs.length <= sizeLine /\ (p == sysModules) = false /\ ∃ vs, KV kvs vs /\ s.heap.DictOf (mixKind X.prog X.w) p vs := I.hok p _ hx
   have hlen : kvs.length = vs.length := Paired.length r
   exact wpAny_truthy_dict hS m (by omega) ⟨H, I.tok _, by rw [isEmpty_kv r]; exact q⟩
 | _ => exact (show False from e).elim
theorem pt_truth (ha : PE X a ta) (he : ∀ whole, isTrue a X.env whole = (do let v ← whole; standAt a.pos; holding [v] (truthy v))) :
  PT X a (fun σ H Q => ta σ H fun x H' => ∃ k, TruV X.K x H' k /\ Q k H') := by
 intro pins s σ H Q I h
 exact isTrue_plain (thn (ha pins s σ H _ I h) fun v s1 ⟨x, H1, I1, r1, q1⟩ => tru_ok pins s1 σ H1 x v Q I1 r1 q1) (he _)
theorem vals1 {x : V} {us : List Value} (r : Vals [x] us) : ∃ u, us = [u] /\ RelV x u := by
 cases r with
 | cons r1 r2 => cases r2; exact ⟨_, rfl, r1⟩
theorem vals2 {x y : V} {us : List Value} (r : Vals [x, y] us) : ∃ u w', us = [u, w'] /\ RelV x u /\ RelV y w' := by
 cases r with
 | cons r1 r2 =>
  cases r2 with
  | cons r3 r4 => cases r4; exact ⟨_, _, rfl, r1, r3⟩
theorem call_abs : CallR X (.builtin "abs") (fun xs H Q => ∃ i, xs = [.int i] /\ Q (.int (if i < 0 then -i else i)) H) := by
 intro pins s σ H xs us Q I r h
 obtain ⟨i, rfl, q⟩ := h
 obtain ⟨u, rfl, t, rfl⟩ := vals1 r
 exact call_abs_int fun u tk => ⟨.int (if i < 0 then -i else i), H, I.tok _, ⟨_, rfl⟩, q⟩
theorem call_max2 (hc : X.calm = true) : CallR X (.builtin "max") (fun xs H Q => ∃ i j, xs = [.int i, .int j] /\ Q (.int (if j > i then j else i)) H) := by
 intro pins s σ H xs us Q I r h
 obtain ⟨i, j, rfl, q⟩ := h
 obtain ⟨u, w', rfl, ⟨t, rfl⟩, ⟨t', rfl⟩⟩ := vals2 r
 refine max_two_ints (I.ok.hd hc) fun h' tk k => ⟨_, H, I.kept k, ?_, q⟩
 by_cases hj : j > i
 ·rw [if_pos hj, if_pos hj]; exact ⟨_, rfl⟩
 ·rw [if_neg hj, if_neg hj]; exact ⟨_, rfl⟩
theorem call_min2 (hc : X.calm = true) : CallR X (.builtin "min") (fun xs H Q => ∃ i j, xs = [.int i, .int j] /\ Q (.int (if j < i then j else i)) H) := by
 intro pins s σ H xs us Q I r h
 obtain ⟨i, j, rfl, q⟩ := h
 obtain ⟨u, w', rfl, ⟨t, rfl⟩, ⟨t', rfl⟩⟩ := vals2 r
 refine min_two_ints (I.ok.hd hc) fun h' tk k => ⟨_, H, I.kept k, ?_, q⟩
 by_cases hj : j < i
 ·rw [if_pos hj, if_pos hj]; exact ⟨_, rfl⟩
 ·rw [if_neg hj, if_neg hj]; exact ⟨_, rfl⟩
end
end
section
structure ObjM (h : Heap) (x dx C : Addr) (mA : Str -> Option Value) : Prop where
 obj : h.get? x = some (W.instObj C dx)
 ns : h.Ns1 dx mA
 ne : dx ≠ x
theorem lookIn_ns {h : Heap} {dx : Addr} {mA : Str -> Option Value} (n : h.Ns1 dx mA) : ∃ od, h.get? dx = some od /\ ∀ name, W.lookIn name od = some (mA name) := by
 obtain ⟨o, es, ep, ho, hd, hk, _, hm⟩ := n
 refine ⟨o, ho, fun name => ?_⟩
 have e := hm name
 unfold nsFind findBy at e
 rw [<- Array.find?_toList] at e
 unfold W.lookIn
 rw [hd]
 dsimp only
 split
 ·rename_i y q
  rw [q] at e
  exact congrArg some e
 ·rename_i q
  rw [q] at e
  have a : es.toList.any (·.refKey) = false := by
   rw [any_eq_false]
   intro y hy
   obtain ⟨z, t, hkey⟩ := hk y (Array.mem_toList_iff.mp hy)
   simp [DictEntry.refKey, hkey]
  have a' : ¬ es.toList.any (·.refKey) = true := by rw [a]; exact Bool.false_ne_true
  rw [if_neg a']
  exact congrArg some e
theorem ObjM.look {h : Heap} {x dx C : Addr} {mA : Str -> Option Value} (I : ObjM h x dx C mA) : ∃ od, W.InstAt h x (W.instObj C dx) C (some od) /\ ∀ name, W.lookIn name od = some (mA name) :=
 let ⟨od, ho, hl⟩ := lookIn_ns I.ns
 ⟨od, ⟨I.obj, rfl, rfl, ho⟩, hl⟩
section
variable {prog : Program} {w : World} {A : Around} {E : Value -> Shared -> Prop} {s : Shared} {K : W.Frag} {x dx C f : Addr} {mA : Str -> Option Value} {name : Str} {v : Value}
end
def putF (f : Str) (v : V) : List (Str × V) -> List (Str × V)
 | [] => [(f, v)]
 | (g, x) :: r => if g = f then (g, v) :: r else (g, x) :: putF f v r
section
variable {P : Program} {w : World} {H H' : Hp} {h h' : Heap} {a C dx : Addr} {fs fs' : List (Str × V)}
theorem ins_get (hok : HOk P w H h) (e : H a = some (.ins C dx fs)) : ∃ mA, ObjM h a dx C mA /\ (∀ f, RelO (fs.lookup f) (mA f)) /\ PySem.Within mA (fs.map (·.1)) /\ fs.length <= 1000 /\ H dx = some (.own a) := by
 obtain ⟨d, z, ne, ob, mA, n, r, q⟩ := (show ObjOk P w H h a (.ins C dx fs) from hok a _ e)
 exact ⟨mA, ⟨ob, n, ne⟩, r, q, z, d⟩
end
structure Cls (K : W.Frag) (C : Addr) : Prop where
 pg : W.plainGet K C Str.empty = true
 hd : W.hasDictIn K C = true
 po : W.plainOver K C = true
 sa : W.findIn K (.ref C) "__setattr__" = some (some (.builtin "object.__setattr__"))
theorem Cls.get {K : W.Frag} {C : Addr} (c : Cls K C) (f : Str) : W.plainGet K C f = true := c.pg
structure Con (K : W.Frag) (C : Addr) (f : Str) (v : V) (u : Value) : Prop where
 at_ : W.findIn K (.ref C) f = some (some u)
 rel : RelV v u
 get : W.specialIn K u "__get__" = some none
 cp : W.copiedNames.contains f = false
structure Meth (K : W.Frag) (C : Addr) (m : Str) (f : Addr) : Prop where
 at_ : W.findIn K (.ref C) m = some (some (.ref f))
 fn : W.isFn K (.ref f) = true
 kp : W.keepIn K (.ref f) = true
section
variable {X : Cx} {pins : List (Addr × Obj)} {σ : St} {H : Hp} {s : Shared} {a C dx : Addr} {fs : List (Str × V)} {f : Str} {v : V} {A : Around} {E : Value -> Shared -> Prop}
theorem Inv.made (I : Inv X pins σ H s) : Inv X pins σ (upd (upd H s.heap.objs.size (.own (s.heap.objs.size + 1))) (s.heap.objs.size + 1) (.ins C s.heap.objs.size []))
  { s with heap := (s.heap.push W.emptyDict).push (W.instObj C s.heap.objs.size) } := by
 have e1 : (s.heap.push W.emptyDict).get? s.heap.objs.size = some W.emptyDict := Heap.get?_push_size s.heap rfl
 have e2 : ((s.heap.push W.emptyDict).push (W.instObj C s.heap.objs.size)).get? (s.heap.objs.size + 1) = some (W.instObj C s.heap.objs.size) := by
  have := Heap.get?_push_size (s.heap.push W.emptyDict) (o := W.instObj C s.heap.objs.size) rfl
  rwa [Heap.size_push] at this
 have e3 : (s.heap.push W.emptyDict).Ns s.heap.objs.size (fun _ => none) := ⟨W.emptyDict, #[], _, e1, rfl, (fun e he => absurd he (by simp)), fun _ => rfl⟩
 have I1 := I.laid (a := s.heap.objs.size) (o := .own (s.heap.objs.size + 1)) (h' := s.heap.push W.emptyDict) (t' := s.toks) (fun b u q => Heap.get?_push_of_some _ q) (Nat.le_refl _) ⟨_, e1⟩
 refine I1.laid (a := s.heap.objs.size + 1) (o := .ins C s.heap.objs.size []) (t' := s.toks) (fun b u q => Heap.get?_push_of_some _ q) (Nat.le_of_eq (Heap.size_push _ _)) ?_
 have ne : s.heap.objs.size ≠ s.heap.objs.size + 1 := Nat.ne_of_lt (Nat.lt_succ_self _)
 refine ⟨by rw [upd_ne ne, upd_same], Nat.zero_le _, ne, e2, fun _ => none, (Heap.Ns1.of_empty e3).at fun o q => Heap.get?_push_of_some _ q, fun _ => True.intro, fun y hy => absurd rfl hy⟩
end
section
variable {X : Cx} {o e value : Expr} {f : Str} {pos pos' tpos : Pos} {ta tv : TE}
end
section
variable {X : Cx} {pins : List (Addr × Obj)} {σ : St} {H : Hp} {s : Shared} {A : Around} {E : Value -> Shared -> Prop} {Q : Value -> Shared -> Prop} {c : Value} {b : Bool}
inductive TyOf (K : W.Frag) (H : Hp) : V -> Value -> Prop where
 | non : TyOf K H .non (.type "NoneType")
 | bl (x : Bool) : TyOf K H (.bl x) (.type "bool")
 | int (i : Int) : TyOf K H (.int i) (.type "int")
 | str (x : Str) : TyOf K H (.str x) (.type "str")
 | flt (x : UInt64) : TyOf K H (.flt x) (.type "float")
 | lst {a : Addr} {xs : List V} (e : H a = some (.lst xs)) : TyOf K H (.ref a) (.type "list")
 | frz {a : Addr} {o : Obj} {xs : List V} (e : H a = some (.frz o (.lst xs))) : TyOf K H (.ref a) (.type "list")
 | tup {a : Addr} {xs : List V} (e : H a = some (.tup xs)) : TyOf K H (.ref a) (.type "tuple")
 | dK {a : Addr} {kvs : List (Key × V)} (e : H a = some (.dK kvs)) : TyOf K H (.ref a) (.type "dict")
 | dT {a : Addr} {kvs : List (List Key × V)} (e : H a = some (.dT kvs)) : TyOf K H (.ref a) (.type "dict")
 | ins {a C dx : Addr} {fs : List (Str × V)} (e : H a = some (.ins C dx fs)) (cl : Cls K C) (ha : W.findIn K (.ref C) "__class__" = some (some (.builtin "object.__class__")))
   (hn : W.specialIn K (.builtin "object.__class__") "__get__" = some (some (.builtin "getset_descriptor.__get__"))) (htk : W.takesIn K (.builtin "object.__class__") = some true)
   (hm : W.mroIn K C (.type "object") = some true) : TyOf K H (.ref a) (.ref C)
theorem isinst_ok {x : V} {u t : Value} (I : Inv X pins σ H s) (rx : RelV x u) (ty : TyOf X.K H x t) (e : W.kitOne X.K t c = some b) (h : ∀ tk, Q (.bool b) { s with toks := tk }) :
  wpAny (model X.prog X.w) A (call (.builtin "isinstance") [u, c]) Q E s := by
 cases ty with
 | non => cases (show u = Value.none from rx); exact W.kia_one W.kitx_none I.kIn True.intro e (fun z => nomatch z) h
 | bl y => cases (show u = Value.bool y from rx); exact W.kia_one W.kitx_bool I.kIn True.intro e (fun z => nomatch z) h
 | int i => obtain ⟨t, q⟩ := (show ∃ t, u = Value.int i t from rx); cases q; exact W.kia_one W.kitx_int I.kIn True.intro e (fun z => nomatch z) h
 | str y => obtain ⟨t, q⟩ := (show ∃ t, u = Value.str y t from rx); cases q; exact W.kia_one W.kitx_str I.kIn True.intro e (fun z => nomatch z) h
 | flt y => obtain ⟨t, q⟩ := (show ∃ t, u = Value.float y t from rx); cases q; exact W.kia_one W.kitx_float I.kIn True.intro e (fun z => nomatch z) h
 | @lst a xs ea =>
  cases (show u = Value.ref a from rx)
  obtain ⟨_, _, n, _, h1⟩ := (show ObjOk X.prog X.w H s.heap a (.lst xs) from I.hok a _ ea)
  exact W.kia_one W.kitx_list I.kIn ⟨_, h1, rfl⟩ e (fun z => nomatch z) h
 | @frz a ob xs ea =>
  cases (show u = Value.ref a from rx)
  obtain ⟨_, _, _, n, _, h1⟩ := (show ObjOk X.prog X.w H s.heap a (.frz ob (.lst xs)) from I.hok a _ ea)
  exact W.kia_one W.kitx_list I.kIn ⟨_, h1, rfl⟩ e (fun z => nomatch z) h
 | @tup a xs ea =>
  cases (show u = Value.ref a from rx)
  obtain ⟨_, _, _, p⟩ := (show ObjOk X.prog X.w H s.heap a (.tup xs) from I.hok a _ ea)
  obtain ⟨o, h1, h2, _⟩ := p
  exact W.kia_one W.kitx_tuple I.kIn ⟨o, h1, h2⟩ e (fun z => nomatch z) h
 | @dK a kvs ea =>
  cases (show u = Value.ref a from rx)
  obtain ⟨_, _, vs, _, p⟩ := (show ObjOk X.prog X.w H s.heap a (.dK kvs) from I.hok a _ ea)
  obtain ⟨o, es, ep, h1, h2, _⟩ := p
  exact W.kia_one W.kitx_dict I.kIn ⟨o, h1, h2.1⟩ e (fun z => nomatch z) h
 | @dT a kvs ea =>
  cases (show u = Value.ref a from rx)
  obtain ⟨_, _, xs, _, o, es, ep, h1, h2, _⟩ := (show ObjOk X.prog X.w H s.heap a (.dT kvs) from I.hok a _ ea)
  exact W.kia_one W.kitx_dict I.kIn ⟨o, h1, h2.1⟩ e (fun z => nomatch z) h
 | @ins a C dx fs ea cl ha hn htk hm =>
  cases (show u = Value.ref a from rx)
  obtain ⟨mA, O, _⟩ := ins_get I.hok ea
  obtain ⟨od, J, _⟩ := O.look
  exact W.kia_one (W.kitx_own (cl.get _) cl.hd ha hn htk hm) I.kIn J e (fun z => nomatch z) h
end
end
section
structure Room (k : Nat) (A : Around) : Prop where
 hd : A.handled = none
 dp : A.depth + 3 * k + 5 < recursionLimit
 un : A.units + 16 * k + 200 < cLine
theorem Room.mono {j k : Nat} {A : Around} (r : Room k A) (h : j <= k) : Room j A := ⟨r.hd, by have := r.dp; omega, by have := r.un; omega⟩
theorem Room.deeper {k : Nat} {A : Around} (r : Room (k + 1) A) (env : Env) : Room k (A.deeper env) :=
 ⟨r.hd, by have := r.dp; show A.depth + 1 + 3 * k + 5 < _; omega, by have := r.un; show A.units + 3 + 16 * k + 200 < _; omega⟩
theorem Room.in1 {k : Nat} {A : Around} (r : Room (k + 1) A) : Room k A.in1 :=
 ⟨r.hd, by have := r.dp; show A.depth + 3 * k + 5 < _; omega, by have := r.un; show A.units + 1 + 16 * k + 200 < _; omega⟩
theorem Room.depth {k : Nat} {A : Around} (r : Room k A) : A.depth < recursionLimit := by have := r.dp; omega
theorem Room.units {k : Nat} {A : Around} (r : Room k A) : A.units + 64 < cLine := by have := r.un; omega
def tNil : TA := fun _ H Q => Q [] H
def tCons (ta : TE) (tr : TA) : TA := fun σ H Q => ta σ H fun x H1 => tr σ H1 fun xs H2 => Q (x :: xs) H2
section
variable {X : Cx} {e : Expr} {es : List Expr} {te : TE} {t : TA} {pos : Pos}
theorem pa_nil : PA X [] tNil := fun _ _ _ _ H Q I h => Calls.spliced_nil ⟨[], H, I, .nil, h⟩
theorem pa_cons (ha : PE X e te) (hr : PA X es t) (hs : starEach (e :: es) X.env = (false, eval e X.env) :: starEach es X.env := by rfl) : PA X (e :: es) (tCons te t) := by
 intro pos pins s σ H Q I h
 rw [hs]
 show wpAny _ _ (spliced ((false, eval e X.env) :: backTo pos (starEach es X.env))) _ _ s
 refine Calls.spliced_cons (thn (ha pins s σ H _ I h) fun u s1 hpat => ?_)
 obtain ⟨x, H1, I1, r1, q1⟩ := hpat
 exact thn (hr pos pins s1 σ H1 _ I1 q1) fun us s2 ⟨xs, H2, I2, r2, q2⟩ => ⟨x :: xs, H2, I2, .cons r1 r2, q2⟩
def tTup (t : TA) : TE := fun σ H Q => t σ H fun xs H1 => xs.length <= sizeLine /\ ∀ p, H1 p = none -> Q (.ref p) (upd H1 p (.tup xs))
def tLst (t : TA) : TE := fun σ H Q => t σ H fun xs H1 => xs.length <= sizeLine /\ ∀ p, H1 p = none -> Q (.ref p) (upd H1 p (.lst xs))
theorem pe_tup {x1} (h : PA X es t) : PE X (.Tuple es x1 pos) (tTup t) := by
 intro pins s σ H Q I hq
 refine wpAny_Tuple_spliced (thn (h pos pins s σ H _ I hq) fun us s1 ⟨xs, H1, I1, r, z, q⟩ => ⟨by rw [<- r.length]; exact z, ?_⟩)
 have hf : H1 s1.heap.objs.size = none := I1.hok.fresh (Nat.le_refl _)
 refine ⟨.ref s1.heap.objs.size, upd H1 s1.heap.objs.size (.tup xs), I1.laid (t' := s1.toks) (fun b u e => Heap.get?_push_of_some _ e) (Nat.le_refl _) ?_, rfl, q _ hf⟩
 exact ⟨z, us, r, ⟨_, Heap.get?_push_size _ rfl, rfl, _, rfl⟩⟩
theorem pe_lst (h : PA X es t) : PE X (.List es pos) (tLst t) := by
 intro pins s σ H Q I hq
 refine wpAny_List_spliced (thn (h pos pins s σ H _ I hq) fun us s1 ⟨xs, H1, I1, r, z, q⟩ => ⟨by rw [<- r.length]; exact z, ?_⟩)
 have hf : H1 s1.heap.objs.size = none := I1.hok.fresh (Nat.le_refl _)
 refine ⟨.ref s1.heap.objs.size, upd H1 s1.heap.objs.size (.lst xs), I1.laid (t' := s1.toks) (fun b u e => Heap.get?_push_of_some _ e) (Nat.le_refl _) ?_, rfl, q _ hf⟩
 exact ⟨z, us, 0, r, Heap.get?_push_size _ rfl⟩
end
abbrev Sp := List V -> Hp -> VK -> XK -> Prop
abbrev CXT := List Env -> Hp -> Shared -> XK -> Value -> Shared -> Prop
structure Env0 (P : Program) (w : World) (K : W.Frag) (mg : Str -> Option Value) (base : Heap) (A : Around) (outer : List Env) (s : Shared) (H : Hp) : Prop where
 frames : A.frames = some outer
 mod : Mod K mg base
 bs : ∀ b o, base.get? b = some o -> s.heap.get? b = some o /\ H b = none
 bsz : base.objs.size <= s.heap.objs.size
 funs : s.heap.FunFrames base outer
 frf : ∀ b ∈ frs outer, H b = none
 hok : HOk P w H s.heap
 bare : AllBare s.gens
def CE (outer : List Env) (P : Program) (w : World) (H : Hp) (s : Shared) (Q : VK) (u : Value) (s' : Shared) : Prop :=
 ∃ v H', s'.os = s.os /\ AllBare s'.gens /\ Un (frs outer) [] H H' s.heap s'.heap /\ HOk P w H' s'.heap /\ RelV v u /\ Q v H'
def CR (CX : CXT) (outer : List Env) (P : Program) (w : World) (H : Hp) (s : Shared) (Q : VK) (E : XK) (r : Result) (s' : Shared) : Prop :=
 match r with
 | .ok (.ret u) => CE outer P w H s Q u s'
 | .ok _ => False
 | .error e => CX outer H s E e s'
structure FnOk (P : Program) (w : World) (K : W.Frag) (mg : Str -> Option Value) (base : Heap) (CX : CXT) (k : Nat) (f : Addr) (fd : FuncData) (ps : List Str) (sp : Sp) : Prop where
 len : ∀ vs H Q E, sp vs H Q E -> vs.length = ps.length
 run : ∀ (A : Around) (outer : List Env) (s : Shared) (H : Hp) (args : Args) (us : List Value) (vs : List V) (Q : VK) (E : XK), Room k A -> Env0 P w K mg base A outer s H -> BindsTo s fd args (ps.zip us) -> Vals vs us -> sp vs H Q E ->
  codeAny (model P w) A (.call (.ref f) args) (CR CX outer P w H s Q E) s
theorem FnOk.mono {P : Program} {w : World} {K : W.Frag} {mg : Str -> Option Value} {base : Heap} {CX : CXT} {j k : Nat} {f : Addr} {fd : FuncData} {ps : List Str} {sp : Sp} (F : FnOk P w K mg base CX j f fd ps sp) (h : j <= k) :
  FnOk P w K mg base CX k f fd ps sp := ⟨F.len, fun A outer s H args us vs Q E hr => F.run A outer s H args us vs Q E (hr.mono h)⟩
theorem FnOk.imp {P : Program} {w : World} {K : W.Frag} {mg : Str -> Option Value} {base : Heap} {CX : CXT} {k : Nat} {f : Addr} {fd : FuncData} {ps : List Str} {sp sp' : Sp} (F : FnOk P w K mg base CX k f fd ps sp)
  (h : ∀ vs H Q E, sp' vs H Q E -> sp vs H Q E) : FnOk P w K mg base CX k f fd ps sp' :=
 ⟨fun vs H Q E q => F.len vs H Q E (h _ _ _ _ q), fun A outer s H args us vs Q E hr he hb hv hs => F.run A outer s H args us vs Q E hr he hb hv (h _ _ _ _ hs)⟩
theorem Env0.in1 {P : Program} {w : World} {K : W.Frag} {mg : Str -> Option Value} {base : Heap} {A : Around} {outer : List Env} {s : Shared} {H : Hp} (e : Env0 P w K mg base A outer s H) :
  Env0 P w K mg base A.in1 outer s H := ⟨e.frames, e.mod, e.bs, e.bsz, e.funs, e.frf, e.hok, e.bare⟩
section
variable {X : Cx} {pins : List (Addr × Obj)} {σ : St} {H : Hp} {s s' : Shared}
theorem Inv.env0 (I : Inv X pins σ H s) : Env0 X.prog X.w X.K X.mg X.base X.A X.stack s H :=
 ⟨I.ok.frames, I.ok.mod, I.bs, Nat.le_trans I.ok.bsz I.sz, I.stack, I.stkFree, I.hok, I.bare⟩
theorem Inv.after {Q : VK} {u : Value} (I : Inv X pins σ H s) (h : CE X.stack X.prog X.w H s Q u s') : EP X pins σ Q u s' := by
 obtain ⟨v, H', os, bare, un, hok, r, q⟩ := h
 obtain ⟨hh, g, d, t, os'⟩ := s'
 obtain rfl : os' = s.os := os
 exact ⟨v, H', I.call (h' := hh) (g' := g) (d' := d) (t' := t) (ch := []) un hok bare (fun b z => absurd z (by simp)), r, q⟩
end
def tCall (sp : Sp) (dvs : List V) (E : XK) (t : TA) : TE := fun σ H Q => t σ H fun vs H1 => sp (vs ++ dvs) H1 Q E
def Binds (K : W.Frag) (fd : FuncData) (ps : List Str) (ds : List Value) : Prop :=
 ∀ (s : Shared) (us : List Value), K.In s.heap -> (us ++ ds).length = ps.length -> BindsTo s fd ⟨us, []⟩ (ps.zip (us ++ ds))
theorem Binds.all {K : W.Frag} {fd : FuncData} {ps : List Str} (h : ∀ us : List Value, us.length = ps.length -> bindArgs fd ⟨us, []⟩ = pure (ps.zip us)) : Binds K fd ps [] := fun s us _ hl => by
 rw [append_nil] at hl ⊢
 exact .of_eq (h us hl)
def Passes (CX : CXT) (X : Cx) (E : XK) : Prop := ∀ (pins : List (Addr × Obj)) (σ : St) (H : Hp) (s : Shared) (e : Value) (s' : Shared), Inv X pins σ H s -> CX X.stack H s E e s' -> X.xe e s'
section
variable {X : Cx} {CX : CXT} {k : Nat} {f C : Addr} {fd : FuncData} {ps : List Str} {sp : Sp} {dvs : List V} {ds : List Value} {E : XK} {x m : Str} {p pos apos : Pos} {e o : Expr} {es : List Expr} {ta : TE} {t : TA}
theorem run_fn {pins : List (Addr × Obj)} {σ : St} {H : Hp} {s : Shared} {Q : VK} {us : List Value} {vs : List V} (F : FnOk X.prog X.w X.K X.mg X.base CX k f fd ps sp) (hr : Room k X.A) (hb : Binds X.K fd ps ds) (hd : Vals dvs ds) (hx : Passes CX X E)
  (I : Inv X pins σ H s) (r : Vals vs us) (h : sp (vs ++ dvs) H Q E) : wpAny (model X.prog X.w) X.A (call (.ref f) us) (EP X pins σ Q) X.xe s := by
 have r2 : Vals (vs ++ dvs) (us ++ ds) := r.append hd
 have hl : (us ++ ds).length = ps.length := by rw [<- r2.length]; exact F.len _ _ _ _ h
 refine wpAny_call (codeAny_mono (F.run X.A X.stack s H ⟨us, []⟩ (us ++ ds) (vs ++ dvs) Q E hr I.env0 (hb s us I.kIn hl) r2 h) fun r s' hq => ?_)
 cases r with
 | error e => exact hx pins σ H s e s' I hq
 | ok fl =>
  cases fl with
  | ret u => exact I.after hq
  | next => exact False.elim hq
  | brk => exact False.elim hq
  | cont => exact False.elim hq
theorem pe_call (F : FnOk X.prog X.w X.K X.mg X.base CX k f fd ps sp) (hr : Room k X.A) (hg : Gl X x) (hm : X.mg x = some (.ref f)) (hk : W.keepIn X.K (.ref f) = true) (hb : Binds X.K fd ps ds) (hd : Vals dvs ds) (hx : Passes CX X E)
  (ha : PA X (e :: es) t) (hdb : (x == ("__debug__" : Str)) = false := by decide) (he : starEach (e :: es) X.env = (false, eval e X.env) :: starEach es X.env := by rfl) (hpl : (backTo pos (starEach es X.env)).any (·.1) = false := by rfl) :
  PE X (.Call (.Name x p) (e :: es) [] pos) (tCall sp dvs E t) := by
 intro pins s σ H Q I h
 refine wpAny_Call_Name_kw (ld_glob I hg hm ?_ hdb)
 refine W.callWith_K (h₀ := X.base) I.ok.mod.kin hk (thn (ha pos pins s σ H _ I h) fun us s1 ⟨vs, H1, I1, r, q⟩ => ⟨I1.kIn, ?_⟩) he hpl
 exact run_fn F hr hb hd hx I1 r q
structure Mk (K : W.Frag) (C f : Addr) : Prop where
 makes : W.makesIn K C = true
 init : W.findIn K (.ref C) "__init__" = some (some (.ref f))
 fn : W.isFn K (.ref f) = true
 kp : W.keepIn K (.ref C) = true
end
def PK (X : Cx) (kws : List Keyword) (t : TA) : Prop :=
 ∀ (pos : Pos) (pins : List (Addr × Obj)) (s : Shared) (σ : St) (H : Hp) (Q : List V -> Hp -> Prop), Inv X pins σ H s -> t σ H Q -> wpAny (model X.prog X.w) X.A (evalAll ((backToKw pos (keywordEach kws X.env)).map (·.2))) (AP X pins σ Q) X.xe s
section
variable {X : Cx} {CX : CXT} {k : Nat} {f C : Addr} {fd : FuncData} {ps ks : List Str} {sp : Sp} {E : XK} {x m : Str} {p pos apos kpos : Pos} {e o : Expr} {es : List Expr} {kws : List Keyword} {te ta : TE} {t tk : TA} {nm : Option Str}
theorem pk_nil : PK X [] tNil := fun _ _ _ _ H Q I h => wpAny_evalAll_nil ⟨[], H, I, .nil, h⟩
theorem pk_cons (ha : PE X e te) (hr : PK X kws t) : PK X (⟨nm, e, kpos⟩ :: kws) (tCons te t) := by
 intro pos pins s σ H Q I h
 show wpAny _ _ (evalAll ((do let v ← eval e X.env; standAt pos; pure v) :: (backToKw pos (keywordEach kws X.env)).map (·.2))) _ _ s
 refine wpAny_evalAll_cons (wpAny_bind (thn (ha pins s σ H _ I h) fun u s1 ⟨x, H1, I1, r1, q1⟩ => wpAny_bind (wpAny_standAt (wpAny_pure ?_))))
 exact thn (hr pos pins s1 σ H1 _ I1 q1) fun us s2 ⟨xs, H2, I2, r2, q2⟩ => ⟨x :: xs, H2, I2, .cons r1 r2, q2⟩
structure KBinds (K : W.Frag) (fd : FuncData) (ps ks : List Str) (g : List Value -> List Value -> List Value) (gV : List V -> List V -> List V) : Prop where
 to : ∀ (s : Shared) (us ws : List Value), K.In s.heap -> (g us ws).length = ps.length -> BindsTo s fd ⟨us, ks.zip ws⟩ (ps.zip (g us ws))
 rel : ∀ {vs : List V} {us : List Value} {zs : List V} {ws : List Value}, Vals vs us -> Vals zs ws -> Vals (gV vs zs) (g us ws)
variable {g : List Value -> List Value -> List Value} {gV : List V -> List V -> List V}
end
structure FnScope (N P : List Str) (sc : Scope) : Prop where
 kind : sc.kind = .function
 co : sc.isCoroutine = false
 gen : sc.isGenerator = false
 nd : N.Nodup
 pre : N.take P.length = P
 par : ∀ x ∈ P, sc.names.lookup x = some .local \/ sc.names.lookup x = some .cell
 nofree : ∀ y ∈ sc.names, y.2 ≠ .free
theorem bindL_out {kindOf : Str -> Option NameKind} {x : Str} : ∀ {binds : List (Str × Value)} {m : Str -> Option Value}, (∀ v, (x, v) ∉ binds) -> bindL kindOf binds m x = m x
 | [], _, _ => rfl
 | (n, v) :: r, m, h => by
  unfold bindL
  rw [bindL_out fun w hw => h w (mem_cons_of_mem _ hw)]
  split
  ·have : x ≠ n := by rintro rfl; exact h v mem_cons_self
   simp [this]
  ·rfl
theorem bindC_out {kindOf : Str -> Option NameKind} {x : Str} : ∀ {binds : List (Str × Value)} {m : Str -> Option Value}, (∀ v, (x, v) ∉ binds) -> bindC kindOf binds m x = m x
 | [], _, _ => rfl
 | (n, v) :: r, m, h => by
  unfold bindC
  rw [bindC_out fun w hw => h w (mem_cons_of_mem _ hw)]
  split
  ·rfl
  ·have : x ≠ n := by rintro rfl; exact h v mem_cons_self
   simp [this]
theorem bindL_get {kindOf : Str -> Option NameKind} {x : Str} {v : Value} : ∀ {P : List Str} {vs : List Value} {i : Nat} {m : Str -> Option Value}, P.Nodup -> P[i]? = some x -> vs[i]? = some v -> kindOf x = some .local ->
  bindL kindOf (P.zip vs) m x = some v
 | [], _, _, _, _, h, _, _ => by simp at h
 | _ :: _, [], _, _, _, _, h, _ => by simp at h
 | p :: P, w :: vs, 0, m, nd, h1, h2, hk => by
  simp at h1 h2; subst h1; subst h2
  show bindL kindOf ((p, w) :: P.zip vs) m p = _
  unfold bindL
  rw [bindL_out fun v hv => (List.nodup_cons.mp nd).1 (of_mem_zip hv).1, if_pos hk]
  simp
 | p :: P, w :: vs, i + 1, m, nd, h1, h2, hk => by
  show bindL kindOf ((p, w) :: P.zip vs) m x = _
  unfold bindL
  exact bindL_get (i := i) (List.nodup_cons.mp nd).2 (by simpa using h1) (by simpa using h2) hk
theorem bindC_get {kindOf : Str -> Option NameKind} {x : Str} {v : Value} : ∀ {P : List Str} {vs : List Value} {i : Nat} {m : Str -> Option Value}, P.Nodup -> P[i]? = some x -> vs[i]? = some v -> kindOf x ≠ some .local ->
  bindC kindOf (P.zip vs) m x = some v
 | [], _, _, _, _, h, _, _ => by simp at h
 | _ :: _, [], _, _, _, _, h, _ => by simp at h
 | p :: P, w :: vs, 0, m, nd, h1, h2, hk => by
  simp at h1 h2; subst h1; subst h2
  show bindC kindOf ((p, w) :: P.zip vs) m p = _
  unfold bindC
  rw [bindC_out fun v hv => (List.nodup_cons.mp nd).1 (of_mem_zip hv).1, if_neg hk]
  simp
 | p :: P, w :: vs, i + 1, m, nd, h1, h2, hk => by
  show bindC kindOf ((p, w) :: P.zip vs) m x = _
  unfold bindC
  exact bindC_get (i := i) (List.nodup_cons.mp nd).2 (by simpa using h1) (by simpa using h2) hk
def start (N : List Str) (vs : List V) : St := vs.map some ++ List.replicate (N.length - vs.length) none
def cxOf (CX : CXT) (P : Program) (w : World) (K : W.Frag) (mg : Str -> Option Value) (base : Heap) (N : List Str) (qual : Str) (scope : Scope) (f : Addr) (cd : Value) (A : Around) (outer : List Env) (s : Shared) (H : Hp) (E : XK) : Cx where
 prog := P
 w := w
 K := K
 mg := mg
 base := base
 A := A.deeper (envOfC qual scope s.heap.objs.size f cd)
 N := N
 s₀ := s
 H₀ := H
 env := envOfC qual scope s.heap.objs.size f cd
 outer := outer
 stack := envOfC qual scope s.heap.objs.size f cd :: outer
 ex := []
 calm := true
 fn := fun _ => true
 pn := []
 xe := fun e s' => wpAny (model P w) (A.deeper (envOfC qual scope s.heap.objs.size f cd)) (leaving (envOfC qual scope s.heap.objs.size f cd) e) (fun _ s'' => CX outer H s E e s'') (fun e' s'' => CX outer H s E e' s'') s'
theorem cell_has {sc : Scope} {n : Nat} {x : Str} (h : sc.names.lookup x = some .cell) : ∃ c, (cellsFrom n sc.names []).lookup x = some c := by
 have q := W.cellsFrom_some sc.names n [] (.inl h)
 exact Option.isSome_iff_exists.mp q
theorem inv_start {CX : CXT} {P : Program} {w : World} {K : W.Frag} {mg : Str -> Option Value} {base : Heap} {N ps : List Str} {qual : Str} {scope : Scope} {f : Addr} {cd : Value} {A : Around} {outer : List Env} {s s1 : Shared} {H : Hp} {E : XK} {us : List Value} {vs : List V}
  (S : FnScope N ps scope) (hd : A.handled = none) (e0 : Env0 P w K mg base A outer s H) (hl : vs.length = ps.length) (r : Vals vs us)
  (x : InCallC s s.heap.objs.size (bindL (envOfC qual scope s.heap.objs.size f cd).kindOf (ps.zip us) fun _ => none) (cellsFrom (s.heap.objs.size + 1) scope.names []) (bindC (envOfC qual scope s.heap.objs.size f cd).kindOf (ps.zip us) fun _ => none) s1) :
  Inv (cxOf CX P w K mg base N qual scope f cd A outer s H E) [] (start N vs) H s1 := by
 have hpl : ps.length <= N.length := by have := congrArg List.length S.pre; rw [length_take] at this; omega
 obtain ⟨h1, tk, rfl, hk⟩ := x.done
 have noA : ∀ b : Addr, b ∉ (cxOf CX P w K mg base N qual scope f cd A outer s H E).ex := fun b z => absurd (show b ∈ ([] : List Addr) from z) (by simp)
 refine ⟨⟨e0.mod, S.kind, rfl, rfl, Nat.le_refl _, fun y z c h1 h2 => ?_, fun y hy => ?_, fun y c _ h => ?_, fun _ => hd, Around.frames_deeper e0.frames, .inr ⟨rfl, rfl⟩, fun b z => absurd z (noA b), e0.bs, e0.bsz, fun b _ _ => noA b, fun b z => absurd z (noA b), e0.funs, e0.frf⟩,
  rfl, e0.bare, Un.kept hk, ⟨_, x.toInCall.ns, fun i y v h1 h2 h3 => ?_⟩, fun y c h => ⟨_, x.cell y c h⟩, e0.hok.fresh (Nat.le_refl _), fun y c h => ?_, fun p hp => absurd (show p ∈ ([] : List (Addr × Obj)) from hp) (by simp), e0.hok.kept hk, ?_⟩
 ·exact name_of_addr x.apart (PySem.mem_of_lookup h1) (PySem.mem_of_lookup h2)
 ·have hy : scope.names.lookup y = some .cell \/ scope.names.lookup y = some .free := hy
  rcases hy with hy | hy
  ·exact cell_has hy
  ·exact absurd rfl (S.nofree _ (PySem.mem_of_lookup hy))
 ·exact Nat.le_of_lt (x.above y c (PySem.mem_of_lookup h))
 ·have hi : i < vs.length := by
   unfold start at h2
   by_cases hi : i < vs.length
   ·exact hi
   ·rw [getElem?_append_right (by simpa using hi)] at h2
    rw [getElem?_replicate] at h2
    split at h2 <;> cases h2
  have ha : vs[i]? = some v := by
   unfold start at h2
   rw [getElem?_append_left (by simpa using hi), getElem?_map] at h2
   cases e : vs[i]? with
   | none => rw [e] at h2; cases h2
   | some a => rw [e] at h2; cases h2; rfl
  obtain ⟨u, hu, rv⟩ := r.get ha
  have hp : ps[i]? = some y := by
   rw [<- S.pre, getElem?_take_of_lt (by omega)]; exact h1
  have ndP : ps.Nodup := by rw [<- S.pre]; exact S.nd.sublist (take_sublist _ _)
  refine ⟨u, rv, ?_⟩
  rcases S.par y (mem_of_getElem? hp) with k | k
  ·exact .inl ⟨k, bindL_get ndP hp hu k⟩
  ·obtain ⟨c, e⟩ := cell_has (n := s.heap.objs.size + 1) k
   refine .inr ⟨.inl k, c, e, ?_⟩
   have q := x.cell y c e
   rw [bindC_get ndP hp hu (by show scope.names.lookup y ≠ _; rw [k]; decide)] at q
   exact q
 ·exact e0.hok.fresh (Nat.le_of_lt (x.above y c (PySem.mem_of_lookup h)))
 ·unfold start
  show _ = N.length
  rw [length_append, length_map, length_replicate]
  omega
theorem fn_of {CX : CXT} {P : Program} {w : World} {K : W.Frag} {mg : Str -> Option Value} {base : Heap} {k : Nat} {f : Addr} {name qual : Str} {params : Arguments} {body : List Stmt} {scope : Scope} {dV kV doc pm cdv ct oc : Value} {an od : Option Addr}
  {osl : Array (Option Value)} {N ps : List Str} {sp : Sp} (lk : K.lookup f = some ⟨oc, od, .func (W.fnOf name qual params body scope dV kV doc pm an cdv ct), osl⟩) (hcd : W.codeIn K cdv qual = true) (S : FnScope N ps scope)
  (len : ∀ vs H Q E, sp vs H Q E -> vs.length = ps.length)
  (hbody : ∀ (A : Around) (outer : List Env) (s : Shared) (H : Hp) (vs : List V) (Q : VK) (E : XK), Room k (A.deeper (envOfC qual scope s.heap.objs.size f cdv)) -> sp vs H Q E ->
   ∃ t, PSs (cxOf CX P w K mg base N qual scope f cdv A outer s H E) body t /\ t { nx := fun _ H' => Q .non H', rt := Q } (start N vs) H) :
  FnOk P w K mg base CX (k + 1) f (W.fnOf name qual params body scope dV kV doc pm an cdv ct) ps sp := by
 refine ⟨len, fun A outer s H args us vs Q E hr e0 hb r hsp => ?_⟩
 have hl := len _ _ _ _ hsp
 have KX : K.In s.heap := e0.mod.kin.keeps fun b o e => (e0.bs b o e).1
 have lim : s.heap.NoLimit := e0.mod.nolimit.keeps fun b o e => (e0.bs b o e).1
 have hkind : ∀ y ∈ ps.zip us, scope.names.lookup y.1 = some .local \/ (scope.names.lookup y.1 = some .cell /\ ((cellsFrom (s.heap.objs.size + 1) scope.names []).lookup y.1).isSome = true) := fun ⟨n, v⟩ hy => by
  rcases S.par n (of_mem_zip hy).1 with q | q
  ·exact .inl q
  ·exact .inr ⟨q, W.cellsFrom_some _ _ _ (.inl q)⟩
 refine codeAny_call_function hr.depth (KX _ _ lk) rfl S.co S.gen rfl (W.codeRec_of KX hcd) (hb _ _ _ _ ?_)
 refine wpAny_newFunctionEnv_cells S.kind hkind fun env he s1 x => ?_
 subst he
 refine ⟨lim.keeps x.toInCall.keep, codeAny_func ?_⟩
 obtain ⟨t, ht, hq⟩ := hbody A outer s H vs Q E (hr.deeper _) hsp
 have I : Inv (cxOf CX P w K mg base N qual scope f cdv A outer s H E) [] (start N vs) H s1 := inv_start S hr.hd e0 hl r x
 refine wpAny_mono (ht [] s1 (start N vs) H _ I hq) (fun fl s' hs => ?_) fun e s' hs => hs
 have fin : ∀ {σ' : St} {H' : Hp} {v : V} {u : Value}, Inv (cxOf CX P w K mg base N qual scope f cdv A outer s H E) [] σ' H' s' -> RelV v u -> Q v H' -> CE outer P w H s Q u s' :=
  fun {σ' H' v u} J rv q => ⟨v, H', J.os, J.bare, J.base, J.hok, rv, q⟩
 cases fl with
 | ret u =>
  obtain ⟨v, σ', H', J, rv, q⟩ := hs
  exact fin J rv q
 | next =>
  obtain ⟨σ', H', J, q⟩ := hs
  exact fin (v := V.non) (u := Value.none) J rfl q
 | brk =>
  obtain ⟨_, _, _, q⟩ := hs
  exact False.elim q
 | cont =>
  obtain ⟨_, _, _, q⟩ := hs
  exact False.elim q
end
section
section
variable {X : Cx} {x : Str} {p pos : Pos} {e : Expr} {es : List Expr} {t : TA} {id T : String} {r : List V -> Hp -> VK -> Prop}
def tCB (r : List V -> Hp -> VK -> Prop) (t : TA) : TE := fun σ H Q => t σ H fun vs H1 => r vs H1 Q
theorem pe_callB (hc : CallR X (.builtin id) r) (hg : Gl X x) (hm : X.mg x = none) (hv : bootBuiltins x = some (.builtin id)) (ha : PA X (e :: es) t) (hn : x ≠ "__name__" := by decide) (hdb : (x == ("__debug__" : Str)) = false := by decide)
  (he : starEach (e :: es) X.env = (false, eval e X.env) :: starEach es X.env := by rfl) (hpl : (backTo pos (starEach es X.env)).any (·.1) = false := by rfl) : PE X (.Call (.Name x p) (e :: es) [] pos) (tCB r t) := by
 intro pins s σ H Q I h
 refine wpAny_Call_Name_kw (ld_blt I hg hm hv ?_ hn hdb)
 exact PyProof.Rows.callWith_builtin1 (thn (ha pos pins s σ H _ I h) fun us s1 ⟨vs, H1, I1, r1, q1⟩ => hc pins s1 σ H1 vs us Q I1 r1 q1) he hpl
theorem pe_callTy (hc : CallR X (.type T) r) (hg : Gl X x) (hm : X.mg x = none) (hv : bootBuiltins x = some (.type T)) (ha : PA X (e :: es) t) (hn : x ≠ "__name__" := by decide) (hdb : (x == ("__debug__" : Str)) = false := by decide)
  (he : starEach (e :: es) X.env = (false, eval e X.env) :: starEach es X.env := by rfl) (hpl : (backTo pos (starEach es X.env)).any (·.1) = false := by rfl) : PE X (.Call (.Name x p) (e :: es) [] pos) (tCB r t) := by
 intro pins s σ H Q I h
 refine wpAny_Call_Name_kw (ld_blt I hg hm hv ?_ hn hdb)
 exact PyProof.Rows.callWith_type1 (thn (ha pos pins s σ H _ I h) fun us s1 ⟨vs, H1, I1, r1, q1⟩ => hc pins s1 σ H1 vs us Q I1 r1 q1) he hpl
end
end
end L2
namespace HT
open PySem PyProof.Rows
theorem rcLt_int (A : Around) (s : Shared) (a : Int) (t : Tok) (c : Int) (u : Tok) (prog : Program) (w : World) (E : Value -> Shared -> Prop) (Q : Value -> Shared -> Prop) (h : Q (.bool (decide (a < c))) s) :
  wpAny (model prog w) A (richCompare .Lt (.int a t) (.int c u)) Q E s :=
 (PyProof.Rows.lt_int h : wpAny (model prog w) A (compareOp .Lt (.int a t) (.int c u)) Q E s)
section
open PySem.SeqAt
open PySem.AutoSeq1 (wpAny_loadPart')
open PySem.MeetsSeq PySem.MeetsSeq2 PySem.MeetsSeq3
end
section
variable {prog : Program} {w : World} {A : Around} {E : Value -> Shared -> Prop} {s : Shared}
def sIx (n d : Nat) : Option Int -> Nat
 | none => d
 | some v => if v < 0 then (v + (n : Int)).toNat else min v.toNat n
theorem sIx_none (n d : Nat) : sIx n d none = d := rfl
theorem sIx_nat (n d k : Nat) : sIx n d (some (k : Int)) = min k n := by
 show (if (k : Int) < 0 then ((k : Int) + (n : Int)).toNat else min (k : Int).toNat n) = min k n
 rw [if_neg (by omega), Int.toNat_natCast]
end
end HT
namespace L2
open List
open PySem PySem.Spec PyProof.Rows
section
abbrev TO := St -> Hp -> (Option Int -> Hp -> Prop) -> Prop
def PO (X : Cx) (e : Option Expr) (t : TO) : Prop :=
 ∀ (pins : List (Addr × Obj)) (s : Shared) (σ : St) (H : Hp) (Q : Option Int -> Hp -> Prop), Inv X pins σ H s -> t σ H Q ->
  wpAny (model X.prog X.w) X.A (evalPart e X.env) (fun u s' => ∃ o H', Inv X pins σ H' s' /\ IsPart u o /\ Q o H') X.xe s
def tNoPart : TO := fun _ H Q => Q none H
def tPart (t : TE) : TO := fun σ H Q => t σ H fun x H1 => ∃ i, x = .int i /\ Q (some i) H1
section
variable {X : Cx} {e : Expr} {te : TE} {lo hi : Option Expr} {tl th : TO} {pos p2 : Pos}
theorem po_none : PO X none tNoPart := by
 intro pins s σ H Q I h
 rw [evalPart_none]
 exact wpAny_pure ⟨none, H, I, .none, h⟩
theorem po_some (h : PE X e te) : PO X (some e) (tPart te) := by
 intro pins s σ H Q I hw
 rw [evalPart_some]
 refine thn (h pins s σ H _ I hw) fun u s1 hpat => ?_
 obtain ⟨x, H1, I1, r1, q1⟩ := hpat
 obtain ⟨i, rfl, q⟩ := q1
 obtain ⟨t, rfl⟩ := r1
 exact ⟨some i, H1, I1, .int i t, q⟩
def SlR (X : Cx) (r : V -> Option Int -> Option Int -> Hp -> VK -> Prop) : Prop :=
 ∀ (pins : List (Addr × Obj)) (s : Shared) (σ : St) (H : Hp) (x : V) (v vl vu : Value) (lo hi : Option Int) (sl : Addr) (Q : VK), Inv X pins σ H s -> RelV x v -> s.heap.IsSliceOf sl vl vu .none -> IsPart vl lo -> IsPart vu hi -> r x lo hi H Q ->
  ∃ T id, typeLookup (.type T) "__getitem__" = pure (some (.builtin id)) /\ s.TypeIs v T /\ wpAny (model X.prog X.w) X.A (getItem v (.ref sl)) (EP X pins σ Q) X.xe s
theorem SlR.or {r r' : V -> Option Int -> Option Int -> Hp -> VK -> Prop} (h : SlR X r) (h' : SlR X r') : SlR X (fun x lo hi H Q => r x lo hi H Q \/ r' x lo hi H Q) := by
 intro pins s σ H x v vl vu lo hi sl Q I rx hs pl pu q
 rcases q with q | q
 ·exact h pins s σ H x v vl vu lo hi sl Q I rx hs pl pu q
 ·exact h' pins s σ H x v vl vu lo hi sl Q I rx hs pl pu q
def tSl (r : V -> Option Int -> Option Int -> Hp -> VK -> Prop) (te : TE) (tl th : TO) : TE := fun σ H Q => te σ H fun x H1 => tl σ H1 fun l H2 => th σ H2 fun u H3 => r x l u H3 Q
theorem pe_slice {r : V -> Option Int -> Option Int -> Hp -> VK -> Prop} (hr : SlR X r) (he : PE X e te) (hl : PO X lo tl) (hu : PO X hi th) : PE X (.Subscript e (.Slice lo hi none p2) pos) (tSl r te tl th) := by
 intro pins s σ H Q I h
 refine Subscript_ (thn (he pins s σ H _ I h) fun v s1 hpat => ?_)
 obtain ⟨x, H1, I1, r1, q1⟩ := hpat
 refine wpAny_Slice (thn (hl pins s1 σ H1 _ I1 q1) fun vl s2 ⟨l, H2, I2, pl, q2⟩ => thn (hu pins s2 σ H2 _ I2 q2) fun vu s3 hpat => ?_)
 obtain ⟨u, H3, I3, pu, q3⟩ := hpat
 rw [evalPart_none]
 refine wpAny_pure ?_
 have I4 : Inv X pins σ H3 { s3 with heap := s3.heap.push { cls := .type "slice", data := .fields #[vl, vu, .none] } } := I3.kept (t' := s3.toks) fun b ob q => Heap.get?_push_of_some _ q
 obtain ⟨T, id, hT, ht, hg⟩ := hr pins { s3 with heap := s3.heap.push { cls := .type "slice", data := .fields #[vl, vu, .none] } } σ H3 x v vl vu l u s3.heap.objs.size Q I4 r1 (Heap.IsSliceOf.new ..) pl pu q3
 show wpAny (model X.prog X.w) X.A (subscriptTail e (.Slice lo hi none p2) v (.ref s3.heap.objs.size)) (EP X pins σ Q) X.xe { s3 with heap := s3.heap.push { cls := .type "slice", data := .fields #[vl, vu, .none] } }
 exact tail_any (ops := [.ref s3.heap.objs.size, v]) ht hT hg (by with_unfolding_all rfl)
def cutV (xs : List V) (lo hi : Option Int) : List V := (xs.drop (HT.sIx xs.length 0 lo)).take (HT.sIx xs.length xs.length hi - HT.sIx xs.length 0 lo)
theorem cutV_length (xs : List V) (lo hi : Option Int) : (cutV xs lo hi).length <= xs.length := by
 unfold cutV
 rw [length_take, length_drop]
 omega
end
end
section
def ixN (n : Nat) (i : Int) : Option Nat := if 0 <= i then (if i < n then some i.toNat else none) else if -(n : Int) <= i then some (i + n).toNat else none
def atI {α : Type} (xs : List α) (i : Int) : Option α := (ixN xs.length i).bind fun j => xs[j]?
theorem ixN_seq {n : Nat} {i : Int} {j : Nat} (h : ixN n i = some j) : seqIndex? i n = some j /\ j < n /\ -(n : Int) <= i /\ i < n := by
 unfold ixN at h
 by_cases h0 : 0 <= i
 ·rw [if_pos h0] at h
  by_cases h1 : i < n
  ·rw [if_pos h1] at h
   have e : i.toNat = j := Option.some.inj h
   exact ⟨by rw [seqIndex_of h0 h1, e], by omega, by omega, h1⟩
  ·rw [if_neg h1] at h; cases h
 ·rw [if_neg h0] at h
  by_cases h1 : -(n : Int) <= i
  ·rw [if_pos h1] at h
   have e : (i + n).toNat = j := Option.some.inj h
   exact ⟨by rw [seqIndex_neg (by omega) h1, e], by omega, h1, by omega⟩
  ·rw [if_neg h1] at h; cases h
theorem atI_get {α : Type} {xs : List α} {i : Int} {v : α} (h : atI xs i = some v) : ∃ j, seqIndex? i xs.length = some j /\ xs[j]? = some v /\ j < xs.length /\ -(xs.length : Int) <= i /\ i < xs.length := by
 unfold atI at h
 cases e : ixN xs.length i with
 | none => rw [e] at h; cases h
 | some j =>
  rw [e] at h
  obtain ⟨h1, h2, h3, h4⟩ := ixN_seq e
  exact ⟨j, h1, h, h2, h3, h4⟩
theorem atI_last {α : Type} (xs : List α) (v : α) : atI (xs ++ [v]) (-1) = some v := by
 have hl : (xs ++ [v]).length = xs.length + 1 := by simp
 have e : ixN (xs ++ [v]).length (-1) = some xs.length := by
  unfold ixN
  rw [hl, if_neg (by decide), if_pos (by omega)]
  congr 1
  omega
 unfold atI
 rw [e]
 show (xs ++ [v])[xs.length]? = some v
 simp
def PlainIx (b : Expr) : Prop := ∀ o i, subscripted b false o i = operate [o, i] (getItem o i)
def IxR (X : Cx) (r : R2) : Prop :=
 ∀ (value slice : Expr) (pins : List (Addr × Obj)) (s : Shared) (σ : St) (H : Hp) (x y : V) (v u : Value) (Q : VK), Inv X pins σ H s -> RelV x v -> RelV y u -> r x y H Q ->
  subscripted slice false v u = operate [v, u] (getItem v u) -> wpAny (model X.prog X.w) X.A (subscriptTail value slice v u) (EP X pins σ Q) X.xe s
def MtR (X : Cx) (id : String) (r : V -> List V -> Hp -> VK -> Prop) : Prop :=
 ∀ (pins : List (Addr × Obj)) (s : Shared) (σ : St) (H : Hp) (x : V) (xs : List V) (v : Value) (us : List Value) (Q : VK), Inv X pins σ H s -> RelV x v -> Vals xs us -> r x xs H Q ->
  wpAny (model X.prog X.w) X.A (call (.builtin id) (v :: us)) (EP X pins σ Q) X.xe s
section
variable {X : Cx} {a b : Expr} {ta tb : TE} {pos : Pos}
theorem IxR.or {r r' : R2} (h : IxR X r) (h' : IxR X r') : IxR X (fun x y H Q => r x y H Q \/ r' x y H Q) := by
 intro value slice pins s σ H x y v u Q I rx ry q hs
 rcases q with q | q
 ·exact h value slice pins s σ H x y v u Q I rx ry q hs
 ·exact h' value slice pins s σ H x y v u Q I rx ry q hs
theorem MtR.or {id : String} {r r' : V -> List V -> Hp -> VK -> Prop} (h : MtR X id r) (h' : MtR X id r') : MtR X id (fun x xs H Q => r x xs H Q \/ r' x xs H Q) := by
 intro pins s σ H x xs v us Q I rx rs q
 rcases q with q | q
 ·exact h pins s σ H x xs v us Q I rx rs q
 ·exact h' pins s σ H x xs v us Q I rx rs q
theorem pe_ix {r : R2} (hr : IxR X r) (ha : PE X a ta) (hb : PE X b tb) (hs : PlainIx b) : PE X (.Subscript a b pos) (tOp r ta tb) := by
 intro pins s σ H Q I h
 exact Subscript_ (binT ha hb I h fun v u s2 x y H2 I2 rx ry q => hr a b pins s2 σ H2 x y v u Q I2 rx ry q (hs _ _))
def rIxL (K : W.Frag) : R2 := fun x y H Q => ∃ p xs i v, x = .ref p /\ y = .int i /\ SqL K H p xs /\ atI xs i = some v /\ Q v H
theorem ix_list : IxR X (rIxL X.K) := by
 intro value slice pins s σ H x y v u Q I rx ry h hs
 obtain ⟨p, xs, i, z, rfl, rfl, hq, he, q⟩ := h
 cases rx
 obtain ⟨t, rfl⟩ := ry
 obtain ⟨its, r, pl, hz⟩ := I.list hq
 obtain ⟨j, h1, h2, h3, h4, h5⟩ := atI_get he
 obtain ⟨w, ew, rw'⟩ := r.get h2
 have hl := r.length
 have hn := line63
 have fin : EP X pins σ Q w s := ⟨z, H, I, rw', q⟩
 by_cases h0 : 0 <= i
 ·have hj : i.toNat = j := by
   rw [seqIndex_of h0 h5] at h1
   exact Option.some.inj h1
  exact item_listR pl.isList h0 (by omega) (by rw [hj]; simpa using ew) fin hs
 ·have hj : (i + (its.toArray.size : Int)).toNat = j := by
   rw [seqIndex_neg (by omega) h4] at h1
   rw [size_toArray, <- hl]
   exact Option.some.inj h1
  exact subscriptTail_builtinR (x := w) pl.isList.typeIs slot_list_getitem.lookup
   (wpAny_getItem_list_neg (Q := fun r s' => r = w /\ EP X pins σ Q r s') pl.isList (by omega) (by rw [size_toArray] <;> omega) (by omega) (by rw [hj]; simpa using ew) ⟨rfl, fin⟩) hs
theorem mapSeq_set (its : List Value) (n j : Nat) (u : Value) : Obj.mapSeq (·.setIfInBounds j u) { cls := .type "list", data := .seq its.toArray n } = { cls := .type "list", data := .seq (its.set j u).toArray n } := by
 simp [Obj.mapSeq]
theorem Inv.lst {pins : List (Addr × Obj)} {σ : St} {H : Hp} {s : Shared} {p : Addr} {xs : List V} (I : Inv X pins σ H s) (h : H p = some (.lst xs)) :
  ∃ (its : List Value) (n : Nat), Vals xs its /\ s.heap.get? p = some { cls := .type "list", data := .seq its.toArray n } /\ xs.length <= sizeLine := by
 obtain ⟨z, its, n, r, e⟩ := I.hok p _ h
 exact ⟨its, n, r, e, z⟩
theorem Inv.lstUpd {pins : List (Addr × Obj)} {σ : St} {H : Hp} {s : Shared} {p : Addr} {xs ys : List V} {its its' : List Value} {n n' : Nat} {f : Obj -> Obj} (I : Inv X pins σ H s) (h : H p = some (.lst xs))
  (ho : s.heap.get? p = some { cls := .type "list", data := .seq its.toArray n }) (hf : f { cls := .type "list", data := .seq its.toArray n } = { cls := .type "list", data := .seq its'.toArray n' }) (r : Vals ys its') (hz : ys.length <= sizeLine) (t : Nat) :
  Inv X pins σ (upd H p (.lst ys)) { s with heap := s.heap.update p f, toks := t } := by
 have e : (s.heap.update p f).get? p = some { cls := .type "list", data := .seq its'.toArray n' } := by
  rw [Heap.get?_update_self f ho (by rw [hf] <;> rfl), hf]
 refine I.write (x := p) (e := p) (by rw [h]; trivial) (.inl rfl) (fun b u hb q => (Heap.get?_update_other _ _ (Ne.symm hb)).trans q) ⟨_, e⟩ ?_
 exact ⟨hz, its', n', r, e⟩
def rSetL : V -> V -> V -> Hp -> (Hp -> Prop) -> Prop := fun o i v H Q => ∃ p xs k j, o = .ref p /\ i = .int k /\ H p = some (.lst xs) /\ ixN xs.length k = some j /\ Q (upd H p (.lst (xs.set j v)))
theorem set_list : PSet X rSetL := by
 intro pins s σ H o i v ov iv u Q I ro ri rv h
 obtain ⟨p, xs, k, j, rfl, rfl, hp, hj, q⟩ := h
 cases ro
 obtain ⟨t, rfl⟩ := ri
 obtain ⟨its, n, r, ho, hz⟩ := I.lst hp
 obtain ⟨h1, h2, h3, h4⟩ := ixN_seq hj
 have hl := r.length
 have hn := line63
 have I' : Inv X pins σ (upd H p (.lst (xs.set j v))) { s with heap := s.heap.update p (Obj.mapSeq (·.setIfInBounds j u)) } :=
  I.lstUpd hp ho (mapSeq_set its n j u) (r.set rv j) (by rw [length_set]; exact hz) s.toks
 by_cases h0 : 0 <= k
 ·have hk : k.toNat = j := by
   rw [seqIndex_of h0 h4] at h1
   exact Option.some.inj h1
  exact W.ki_setAt ho h0 (by omega) (by rw [size_toArray, <- hl]; exact h4) (by rw [hk]; exact ⟨_, I', q⟩)
 ·have hk : (k + (its.toArray.size : Int)).toNat = j := by
   rw [seqIndex_neg (by omega) h3] at h1
   rw [size_toArray, <- hl]
   exact Option.some.inj h1
  exact W.ki_setBack ho (by omega) (by rw [size_toArray, <- hl]; exact h3) (by omega) (by rw [hk]; exact ⟨_, I', q⟩)
theorem slice_bounds (lo hi : Option Int) (n : Nat) : (sliceBounds lo hi none n).1 = ((HT.sIx n 0 lo : Nat) : Int) /\ (sliceBounds lo hi none n).2.1 = ((HT.sIx n n hi : Nat) : Int) /\ (sliceBounds lo hi none n).2.2 = 1 := by
 refine ⟨?_, ?_, rfl⟩
 ·cases lo with
  | none => simp [sliceBounds, HT.sIx]
  | some i =>
   simp only [sliceBounds, HT.sIx, Option.getD_none, show (1 : Int) > 0 by decide, if_true]
   by_cases h : i < 0
   ·simp only [h, if_true] <;> omega
   ·simp only [h, if_false] <;> omega
 ·cases hi with
  | none => simp [sliceBounds, HT.sIx]
  | some i =>
   simp only [sliceBounds, HT.sIx, Option.getD_none, show (1 : Int) > 0 by decide, if_true]
   by_cases h : i < 0
   ·simp only [h, if_true] <;> omega
   ·simp only [h, if_false] <;> omega
theorem slicePick_cut (its : List Value) (lo hi : Option Int) : slicePick its.toArray lo hi none = ((its.drop (HT.sIx its.length 0 lo)).take (HT.sIx its.length its.length hi - HT.sIx its.length 0 lo)).toArray := by
 obtain ⟨h1, h2, h3⟩ := slice_bounds lo hi its.toArray.size
 unfold slicePick
 rw [h1, h2, h3]
 simp only [sliceRange_one, pick_run, size_toArray] <;> rfl
def rSlL (K : W.Frag) : V -> Option Int -> Option Int -> Hp -> VK -> Prop := fun x lo hi H Q => ∃ a xs, x = .ref a /\ SqL K H a xs /\ ∀ p, H p = none -> Q (.ref p) (upd H p (.lst (cutV xs lo hi)))
theorem sl_list : SlR X (rSlL X.K) := by
 intro pins s σ H x v vl vu lo hi sl Q I rx hs pl pu h
 obtain ⟨a, xs, rfl, hx, q⟩ := h
 cases rx
 obtain ⟨its, r, ht, hz⟩ := I.list hx
 have hlen := r.length
 refine ⟨"list", _, slot_list_getitem.lookup, ht.isList.typeIs, ?_⟩
 refine wpAny_getItem_list_slice ht.isList hs pl pu .none (by simp) ?_ (by rw [size_toArray] <;> omega)
 rw [slicePick_cut, <- hlen]
 refine ⟨.ref s.heap.objs.size, _, I.laid (t' := s.toks) (o := .lst (cutV xs lo hi)) (fun b ob q => Heap.get?_push_of_some _ q) (Nat.le_refl _) ?_, rfl, q _ (I.hok.fresh (Nat.le_refl _))⟩
 exact ⟨Nat.le_trans (cutV_length xs lo hi) hz, _, 0, (r.drop (HT.sIx xs.length 0 lo)).take (HT.sIx xs.length xs.length hi - HT.sIx xs.length 0 lo), Heap.get?_push_size _ rfl⟩
theorem call_len_seq : CallR X (.builtin "len") (fun xs H Q => ∃ p ys, xs = [.ref p] /\ (SqL X.K H p ys \/ SqT X.K H p ys) /\ Q (.int ys.length) H) := by
 intro pins s σ H xs us Q I r h
 obtain ⟨p, ys, rfl, hq, q⟩ := h
 obtain ⟨u, rfl, rx⟩ := vals1 r
 cases rx
 have hn := line63
 rcases hq with hq | hq
 ·obtain ⟨its, r', pl, hz⟩ := I.list hq
  have hlen := r'.length
  exact Calls.call_len_list pl.isList (by simp only [size_toArray] <;> omega) ⟨.int ys.length, H, I.tok _, ⟨s.toks + 1, by rw [size_toArray, hlen]⟩, q⟩
 ·obtain ⟨its, r', pl, hz⟩ := I.tuple hq
  have hlen := r'.length
  exact len_tuple pl (by simp only [size_toArray] <;> omega) ⟨.int ys.length, H, I.tok _, ⟨s.toks + 1, by rw [size_toArray, hlen]⟩, q⟩
theorem call_len_str : CallR X (.builtin "len") (fun xs H Q => ∃ z, xs = [.str z] /\ z.length <= sizeLine /\ Q (.int z.length) H) := by
 intro pins s σ H xs us Q I r h
 obtain ⟨z, rfl, hz, q⟩ := h
 obtain ⟨u, rfl, t, rfl⟩ := vals1 r
 have hn := line63
 exact len_str (by omega) ⟨.int z.length, H, I.tok _, ⟨_, rfl⟩, q⟩
theorem CallR.or {f : Value} {r r' : List V -> Hp -> VK -> Prop} (h : CallR X f r) (h' : CallR X f r') : CallR X f (fun xs H Q => r xs H Q \/ r' xs H Q) := by
 intro pins s σ H xs us Q I rs q
 rcases q with q | q
 ·exact h pins s σ H xs us Q I rs q
 ·exact h' pins s σ H xs us Q I rs q
def tyV (K : W.Frag) (T : String) (x : V) (H : Hp) : Prop := match x with
 | .str _ => T = "str"
 | .int _ => T = "int"
 | .ref p => (T = "list" /\ ∃ xs, SqL K H p xs) \/ (T = "tuple" /\ ∃ o, K.lookup p = some o /\ o.cls = .type "tuple" /\ o.dict = none) \/
   (T = "dict" /\ ((∃ kvs, H p = some (.dK kvs)) \/ ∃ kvs, H p = some (.dT kvs))) \/ (T = "set" /\ ∃ S n, H p = some (.set S n))
 | _ => False
theorem tyV_is {pins : List (Addr × Obj)} {σ : St} {H : Hp} {s : Shared} {T : String} {x : V} {v : Value} (I : Inv X pins σ H s) (r : RelV x v) (ty : tyV X.K T x H) :
  s.TypeIs v T /\ ∀ a, v = .ref a -> ∃ ob, s.heap.get? a = some ob /\ ob.dict = none := by
 cases x with
 | str z =>
  obtain ⟨t, rfl⟩ := r
  cases (show T = "str" from ty)
  exact ⟨typeIs_str s z t, fun _ e => nomatch e⟩
 | int i =>
  obtain ⟨t, rfl⟩ := r
  cases (show T = "int" from ty)
  exact ⟨typeIs_int s i t, fun _ e => nomatch e⟩
 | ref p =>
  cases r
  rcases ty with ⟨rfl, xs, hq⟩ | ⟨rfl, o, hk, hc, hd⟩ | ⟨rfl, hk⟩ | ⟨rfl, S, n, hk⟩
  ·obtain ⟨its, _, pl, _⟩ := I.list hq
   refine ⟨pl.isList.typeIs, fun a e => ?_⟩
   cases e
   obtain ⟨o, n, e, c, hd, _⟩ := pl
   exact ⟨o, e, hd⟩
  ·refine ⟨⟨o, I.kIn p o hk, hc⟩, fun a e => ?_⟩
   cases e
   exact ⟨o, I.kIn _ o hk, hd⟩
  ·have z : ∃ o, s.heap.get? p = some o /\ o.ExactDict := by
    rcases hk with ⟨kvs, hk⟩ | ⟨kvs, hk⟩
    ·obtain ⟨_, _, _, _, o, _, _, e, ex, _⟩ := I.hok p _ hk
     exact ⟨o, e, ex⟩
    ·obtain ⟨_, _, _, _, o, _, _, e, ex, _⟩ := I.hok p _ hk
     exact ⟨o, e, ex⟩
   obtain ⟨o, e, ex⟩ := z
   refine ⟨⟨o, e, ex.1⟩, fun a e2 => ?_⟩
   cases e2
   exact ⟨o, e, ex.2.1⟩
  ·obtain ⟨o, _, _, _, e, ex, _⟩ := I.hok p _ hk
   refine ⟨⟨o, e, ex.1⟩, fun a e2 => ?_⟩
   cases e2
   exact ⟨o, e, ex.2.1⟩
 | _ => exact False.elim ty
def tBM (K : W.Frag) (T : String) (r : V -> List V -> Hp -> VK -> Prop) (to : TE) (t : TA) : TE := fun σ H Q => to σ H fun x H1 => tyV K T x H1 /\ t σ H1 fun xs H2 => r x xs H2 Q
variable {o e : Expr} {es : List Expr} {to : TE} {t : TA} {name : Str} {apos cpos : Pos} {T id : String} {r : V -> List V -> Hp -> VK -> Prop}
theorem pe_bm (pa : PlainAttrs T) (slot : Slot T name id) (hty : typeOf (.builtin id) = pure (.type "method_descriptor")) (hm : MtR X id r) (ho : PE X o to) (ha : PA X (e :: es) t)
  (hbase : attributeBase o name X.env (eval o X.env) = eval o X.env := by rfl)
  (hfew : ((backTo cpos (starEach (e :: es) X.env)).all (fun x => !x.1) && (backToKw cpos (keywordEach [] X.env)).all (fun x => x.1.isSome)
   && decide ((e :: es).length + ([] : List Keyword).length + (if ([] : List Keyword).isEmpty then 0 else 1) < 30)) = true := by rfl)
  (hline : (apos.endLine == cpos.line) = true := by rfl) (hs : starEach (e :: es) X.env = (false, eval e X.env) :: starEach es X.env := by rfl) (hplain : (backTo cpos (starEach es X.env)).any (·.1) = false := by rfl) :
  PE X (.Call (.Attribute o name apos) (e :: es) [] cpos) (tBM X.K T r to t) := by
 intro pins s σ H Q I h
 refine wpAny_Call_method_late hbase hfew hline rfl (thn (ho pins s σ H _ I h) fun v s1 hpat => ?_)
 obtain ⟨x, H1, I1, r1, ty, q1⟩ := hpat
 obtain ⟨h1, h2⟩ := tyV_is I1 r1 ty
 refine ⟨T, id, pa, slot, hty, h1, h2, ?_⟩
 have hA := ha cpos pins s1 σ H1 _ I1 q1
 rw [hs] at hA ⊢
 refine Calls.callWith_builtin (by show (false || (backTo cpos (starEach es X.env)).any (·.1)) = false; rw [hplain] <;> rfl) (Calls.evalArgs_plain ?_)
 exact thn hA fun us s2 ⟨vs, H2, I2, r2, q2⟩ => hm pins s2 σ H2 x vs v us Q I2 r1 r2 q2
end
end
section
def MtM (X : Cx) (id : String) (r : V -> List V -> Hp -> VK -> Prop) : Prop :=
 ∀ (pins : List (Addr × Obj)) (s : Shared) (σ : St) (H : Hp) (x : V) (xs : List V) (v : Value) (us : List Value) (Q : VK), Inv X pins σ H s -> RelV x v -> Vals xs us -> r x xs H Q ->
  wpAny (model X.prog X.w) X.A (call (.builtin id) (v :: us)) (EP X pins σ Q) X.xe s
theorem Vals.one : ∀ {x : V} {us : List Value}, Vals [x] us -> ∃ u, us = [u] /\ RelV x u
 | _, _, .cons r .nil => ⟨_, rfl, r⟩
theorem Vals.zero : ∀ {us : List Value}, Vals [] us -> us = []
 | _, .nil => rfl
theorem Vals.eraseIdx : ∀ {xs : List V} {us : List Value} (i : Nat), Vals xs us -> Vals (xs.eraseIdx i) (us.eraseIdx i)
 | _, _, _, .nil => .nil
 | _, _, 0, .cons _ t => t
 | _, _, i + 1, .cons r t => .cons r (Vals.eraseIdx i t)
theorem Vals.rep {xs : List V} {us : List Value} (h : Vals xs us) : ∀ k : Nat, Vals (List.replicate k xs).flatten (List.replicate k us).flatten
 | 0 => .nil
 | k + 1 => by
  rw [replicate_succ, replicate_succ, flatten_cons, flatten_cons]
  exact Vals.append h (Vals.rep h k)
section
variable {X : Cx} {pins : List (Addr × Obj)} {σ : St} {H : Hp} {s : Shared} {l b : Addr} {xs ys zs : List V}
theorem Inv.lset {its its' : List Value} {n : Nat} {f : Array Value -> Array Value} {t' : Nat} (I : Inv X pins σ H s) (hH : H l = some (.lst xs))
  (e : s.heap.get? l = some { cls := .type "list", data := .seq its.toArray n }) (hf : f its.toArray = its'.toArray) (hv : Vals ys its') (hz : ys.length <= sizeLine) :
  Inv X pins σ (upd H l (.lst ys)) { s with heap := s.heap.update l (Obj.mapSeq f), toks := t' } := by
 have q := PySem.IsL.update e f
 rw [hf] at q
 refine I.write (x := l) (e := l) (by rw [hH]; exact trivial) (.inl rfl) (fun b' u hb hu => (Heap.get?_update_other s.heap (Obj.mapSeq f) (Ne.symm hb)).trans hu) ⟨_, q⟩ ?_
 exact ⟨hz, its', _, hv, q⟩
theorem Inv.lnew {its : List Value} {t' : Nat} (I : Inv X pins σ H s) (hv : Vals ys its) (hz : ys.length <= sizeLine) :
  Inv X pins σ (upd H s.heap.objs.size (.lst ys)) { s with heap := s.heap.push { cls := .type "list", data := .seq its.toArray }, toks := t' } :=
 I.laid (fun _ _ q => Heap.get?_push_of_some _ q) (Nat.le_refl _) ⟨hz, its, 0, hv, Heap.get?_push_size _ rfl⟩
theorem Inv.fresh (I : Inv X pins σ H s) : H s.heap.objs.size = none := I.hok.fresh (Nat.le_refl _)
theorem Inv.lstM (I : Inv X pins σ H s) (hH : H l = some (.lst xs)) : xs.length <= sizeLine /\ ∃ (its : List Value) (n : Nat), Vals xs its /\ xs.length = its.length /\ s.heap.get? l = some { cls := .type "list", data := .seq its.toArray n } := by
 obtain ⟨z, its, n, r, e⟩ := I.hok l _ hH
 exact ⟨z, its, n, r, r.length, e⟩
end
section
variable {X : Cx}
def rAppend : V -> List V -> Hp -> VK -> Prop := fun x vs H Q => ∃ l xs y, x = .ref l /\ vs = [y] /\ H l = some (.lst xs) /\ xs.length < sizeLine /\ Q .non (upd H l (.lst (xs ++ [y])))
theorem mt_append : MtM X "list.append" rAppend := by
 intro pins s σ H x vs v us Q I rx rv h
 obtain ⟨l, xs, y, rfl, rfl, hH, hz, q⟩ := h
 cases rx
 obtain ⟨u, rfl, ru⟩ := rv.one
 obtain ⟨z, its, n, r, hl, e⟩ := I.lstM hH
 refine call_meets F.slot_list_append ⟨_, e, rfl⟩ F.entry_list_append (F.args_list_append_2 _ _) (PySem.list_append l its.toArray n u (by rw [size_toArray]; omega)) ⟨e, ?_⟩
 refine ⟨.non, _, I.lset (its' := its ++ [u]) hH e (by simp) (r.append (.cons ru .nil)) ?_, rfl, q⟩
 rw [length_append, length_singleton]
 omega
end
section
variable {prog : Program} {w : World} {A : Around} {E : Value -> Shared -> Prop} {s : Shared}
end
section
variable {X : Cx}
end
end
end L2
namespace Att
open PySem PySem.W PySem.Calls PyProof.Rows
theorem ints_of_wellAll {P : Params} {h : Heap} : ∀ (ns : List Int) (vs : List Value), WellAll P h vs (ns.map WData.int) -> IntsAre vs ns := by
 intro ns
 induction ns with
 | nil =>
  intro vs w
  rw [List.map_nil] at w
  cases w
  exact .nil
 | cons n ns ih =>
  intro vs w
  rw [List.map_cons] at w
  cases w with
  | cons a b =>
   cases a
   exact .cons _ _ (ih _ b)
theorem script_of {l : OpenLaw} {n : Nat} (hn : l.most = some n) {P : Params} {h : Heap} {args : List WData} {vals : List Value}
  (hpre : l.row.toRowW.claim.pre args = true) (hwl : WellAll P h vals args) :
  ∃ a vs ns, vals = [Value.ref a] /\ args = [WData.list (ns.map WData.int)] /\ h.get? a = some { cls := .type "list", data := .seq vs.toArray } /\ IntsAre vs ns /\ ns.length <= n := by
 have hsh : WShape.hasAll [] args [.list .int] = true := (pre_splitW hpre).1
 have hc : l.pre.holds [] { args := args } = true := (pre_splitW hpre).2
 obtain ⟨d, r, rfl, h1, h2⟩ := hasAllW_cons hsh
 obtain rfl := hasAllW_nil h2
 obtain ⟨xs, rfl, h3⟩ := hasW_list h1
 obtain ⟨ns, rfl⟩ := items_int h3
 have hlen : ns.length <= n := by
  unfold OpenLaw.pre at hc
  have h4 : (WTm.not (.lt (.lit (.int (n : Int))) (.len (.arg 0)))).holds [] { args := [.list (ns.map .int)] } = true := by
   have h4 := (holds_andW hc).1
   rw [hn] at h4
   exact h4
  have h5 := condW_of h4 (w_not (w_lt w_lit (w_len_list (w_arg rfl))))
  rw [List.length_map] at h5
  refine Nat.le_of_not_lt fun q => ?_
  have q' : (n : Int) < ((ns.length : Nat) : Int) := by omega
  first
   | (rw [decide_eq_true q'] at h5; exact absurd h5 (by decide))
   | (simp at h5; omega)
 cases hwl with
 | cons w1 w2 =>
  cases w2
  cases w1 with
  | list ho hall => exact ⟨_, _, ns, rfl, rfl, ho, ints_of_wellAll ns _ hall, hlen⟩
theorem post_true (l : OpenLaw) (args : List WData) : l.row.toRowW.claim.post args (.bool true) args = true :=
 postW_of (r := l.row.toRowW) (X := (true == true))
  (show WShape.has [] (.bool true) .bool = true by first | rfl | decide | simp [WShape.has, WShape.arms, WShape.armsAll])
  (show (WTm.eq .res (.lit (.bool true))).value [] { args := args, res := some (.bool true), after := args } = some (.bool (true == true)) from w_eq_bool (w_res rfl) w_lit) rfl
theorem attach_call {l : OpenLaw} {n : Nat} {q : Program} {loose : List Str} {XP : (Str -> Option Value) -> Heap -> Prop} {YP : World -> Heap -> Prop} {d : DefRec}
  (hn : l.most = some n) (hdf : d.params.defaults = [])
  (call : ∀ (w : World) (s₀ s₁ : Shared) (mg mb : Str -> Option Value) (fa : Addr) (o : Obj) (pm cd doc : Value) (a : Addr) (vs : List Value) (ns : List Int),
   Ground q loose [] XP w s₀ mg mb s₁.heap -> YP w s₁.heap ->
   s₁.heap.get? fa = some o -> o.data = .func (docDef d.name d.params d.body d.scope pm cd doc) -> s₁.heap.CodeRec cd d.name -> mg d.name = some (.ref fa) ->
   s₁.heap.get? a = some { cls := .type "list", data := .seq vs.toArray } -> IntsAre vs ns -> ns.length <= n -> s₁.gens = #[] ->
   codeAny (model l.prog w) callerA (.call (.ref fa) ⟨[.ref a], []⟩) (fun r s' => r = .ok (.ret (.bool true)) /\ OldK s₁.heap s'.heap /\ s'.os = s₁.os /\ AllBare s'.gens) s₁) :
  WalkO q loose XP YP l.row.toRowW d [] (fun f vs => PySem.call f vs) := by
 intro w s₀ s₁ mg mb G Y fa o pm cd doc dV kV ho hd hcd hD hmg hg args vals as hpre hlay hrd hwl hlo
 obtain rfl : dV = .none := Dflts.none hD hdf
 obtain rfl : kV = .none := Dflts.noKw hD
 obtain ⟨a, vs, ns, rfl, rfl, hobj, hints, hlen⟩ := script_of hn hpre hwl
 refine enter_call (codeAny_mono (call w s₀ s₁ mg mb fa o pm cd doc a vs ns G Y ho (fd_plain hd) hcd hmg hobj hints hlen hg) fun r s' hq => ?_)
 obtain ⟨rfl, h2, h3, h4⟩ := hq
 exact ⟨.inl ⟨.bool true, .bool true, [], rfl, fun _ => rfl, .bool true, post_true l _, fun _ => ⟨List.Pairwise.nil, fun _ hm => (nomatch hm)⟩⟩, h2, h3, h4⟩
section
variable {prog : Program} {w : World} {A : Around} {E : Value -> Shared -> Prop} {s : Shared} {K : Frag}
end
end Att
namespace L2
open List
open PySem PySem.Spec PyProof.Rows
section
theorem vals_ints : ∀ {vs : List Value} {ns : List Int}, IntsAre vs ns -> Vals (ns.map V.int) vs
 | _, _, .nil => .nil
 | _, _, .cons n t h => .cons ⟨t, rfl⟩ (vals_ints h)
def Only (H : Hp) : Prop := ∀ b, H b = none \/ ∃ o xs, H b = some (.frz o (.lst xs))
theorem law_call {P : Program} {w : World} {K : W.Frag} {mg mb : Str -> Option Value} {CX : CXT} {k : Nat} {fa a : Addr} {fd : FuncData} {x : Str} {sp : Sp} {s₁ : Shared} {vs : List Value} {ns : List Int}
  (KX : K.In s₁.heap) (hns : s₁.heap.Ns mainGlobals mg) (hb : s₁.heap.Ns builtinsNs mb) (hbb : ∀ x : Str, x ≠ "__name__" -> mb x = bootBuiltins x) (hlim : s₁.heap.NoLimit) (hg : s₁.gens = #[])
  (ha : s₁.heap.get? a = some { cls := .type "list", data := .seq vs.toArray }) (hi : IntsAre vs ns) (hl : ns.length <= sizeLine) (hr : Room k callerA)
  (F : ∀ base : Heap, K.In base -> base.Ns mainGlobals mg -> FnOk P w K mg base CX k fa fd [x] sp) (hbind : ∀ (s : Shared) (u : Value), BindsTo s fd ⟨[u], []⟩ [(x, u)])
  (hsp : ∀ H : Hp, Only H -> SqL K H a (ns.map V.int) -> sp [.ref a] H (fun v _ => v = .bl true) fun _ _ _ => False)
  (hCX : ∀ H e s', CX [] H s₁ (fun _ _ _ => False) e s' -> False) :
  codeAny (model P w) callerA (.call (.ref fa) ⟨[.ref a], []⟩) (fun r s' => r = .ok (.ret (.bool true)) /\ OldK s₁.heap s'.heap /\ s'.os = s₁.os /\ AllBare s'.gens) s₁ := by
 have rv := vals_ints hi
 have lenV := hi.length
 have core : ∀ H : Hp, Only H -> SqL K H a (ns.map V.int) -> HOk P w H s₁.heap -> (∀ b, H b ≠ none -> b = a) -> (H a ≠ none -> K.lookup a = none) ->
   codeAny (model P w) callerA (.call (.ref fa) ⟨[.ref a], []⟩) (fun r s' => r = .ok (.ret (.bool true)) /\ OldK s₁.heap s'.heap /\ s'.os = s₁.os /\ AllBare s'.gens) s₁ := by
  intro H hO hS hok hA hK
  have base_of : ∀ {b : Addr} {o : Obj}, s₁.heap.get? b = some o -> H b = none -> (hidT s₁.heap H).get? b = some o := fun e n => hidT_get e n
  have noA : ∀ {b : Addr} {o : Obj} {es : Array DictEntry} {ep : Nat}, s₁.heap.get? b = some o -> o.data = .dict es ep -> H b = none := fun {b o es ep} e d => by
   cases q : H b with
   | none => rfl
   | some u =>
    have e' : b = a := hA b (by rw [q]; simp)
    subst e'
    rw [ha] at e; cases e
    have d' : Data.seq vs.toArray _ = Data.dict es ep := d
    cases d'
  have nsK : ∀ {b : Addr} {m : Str -> Option Value}, s₁.heap.Ns b m -> (hidT s₁.heap H).Ns b m := fun {b m} ⟨o, es, ep, e, d, r⟩ => ⟨o, es, ep, base_of e (noA e d), d, r⟩
  have hKb : K.In (hidT s₁.heap H) := fun b o e => base_of (KX b o e) (by
   cases q : H b with
   | none => rfl
   | some u =>
    have e' : b = a := hA b (by rw [q]; simp)
    subst e'
    rw [hK (by rw [q]; simp)] at e; cases e)
  have hM : Mod K mg (hidT s₁.heap H) := ⟨hKb, nsK hns, ⟨mb, nsK hb, hbb⟩, let ⟨mc, h1, h2⟩ := hlim; ⟨mc, nsK h1, h2⟩⟩
  have e0 : Env0 P w K mg (hidT s₁.heap H) callerA [] s₁ H := ⟨rfl, hM, fun b o e => of_hidT e, Nat.le_of_eq (hidT_size _ _), trivial, fun b hb => absurd (show b ∈ ([] : List Addr) from hb) (by simp), hok, .of_eq hg⟩
  refine codeAny_mono ((F _ hKb (nsK hns)).run callerA [] s₁ H ⟨[.ref a], []⟩ [.ref a] [.ref a] _ _ hr e0 (hbind s₁ (.ref a)) (.cons rfl .nil) (hsp H hO hS)) fun r s' h => ?_
  cases r with
  | error e => exact (hCX H e s' h).elim
  | ok fl =>
   cases fl with
   | next => exact False.elim h
   | brk => exact False.elim h
   | cont => exact False.elim h
   | ret u =>
    obtain ⟨v, H', os, bare, un, hok', r', q⟩ := h
    have q' : v = .bl true := q
    subst q'
    obtain rfl : u = Value.bool true := r'
    refine ⟨rfl, OldK.of_keep fun b o e => ?_, os, bare⟩
    cases q : H b with
    | none => exact un.keep b o e q (by intro z; exact absurd (show b ∈ ([] : List Addr) from z) (by simp)) (by simp)
    | some u =>
     rcases hO b with z | ⟨ob, xs, z⟩
     ·rw [q] at z; cases z
     ·have z2 := un.frzs b ob _ z
      obtain ⟨e1, _⟩ := hok b _ z
      obtain ⟨e2, _⟩ := hok' b _ z2
      rw [e] at e1; cases e1
      exact e2
 cases hk : K.lookup a with
 | some o =>
  have e := KX a o hk
  rw [ha] at e
  cases e
  refine core (fun _ => none) (fun _ => .inl rfl) (.inr ⟨_, vs.toArray, _, hk, rfl, rfl, rfl, by rw [size_toArray, lenV]; exact hl, by simpa using rv⟩) (fun b u z => by have z' : (none : Option HO) = some u := z; cases z') (fun b z => absurd rfl z) fun z => absurd rfl z
 | none =>
  refine core (fun b => if b = a then some (.frz { cls := .type "list", data := .seq vs.toArray } (.lst (ns.map V.int))) else none) (fun b => ?_) (.inl (.inr ⟨{ cls := .type "list", data := .seq vs.toArray }, if_pos rfl⟩)) (fun b u z => ?_) (fun b z => ?_) fun _ => hk
  ·by_cases hb : b = a
   ·exact .inr ⟨_, _, if_pos hb⟩
   ·exact .inl (if_neg hb)
  ·by_cases hb : b = a
   ·have z' := (if_pos hb).symm.trans z
    cases z'
    subst hb
    exact ⟨ha, by rw [length_map]; exact hl, vs, _, rv, ha⟩
   ·have z' := (if_neg hb).symm.trans z
    cases z'
  ·by_cases hb : b = a
   ·exact hb
   ·exact absurd (if_neg hb) z
end
section
abbrev KOf {K : W.Frag} {h : Heap} (_ : K.In h) : W.Frag := K
theorem walk_of {l : W.OpenLaw} {n k : Nat} {q : Program} {loose : List Str} {XP : (Str -> Option Value) -> Heap -> Prop} {YP : World -> Heap -> Prop} {d : DefRec} {K : Params -> W.Frag} {CX : World -> CXT} {sp : World -> Sp} {x : Str}
  (hn : l.most = some n) (hn2 : n <= sizeLine) (hdf : d.params.defaults = []) (hr : Room k callerA)
  (hY : ∀ (w : World) (h : Heap), YP w h -> (K w.params).In h)
  (F : ∀ (w : World) (mg : Str -> Option Value) (fa : Addr) (h : Heap), (K w.params).In h -> h.Ns mainGlobals mg -> mg d.name = some (.ref fa) ->
   ∃ fd : FuncData, (∀ (s : Shared) (u : Value), BindsTo s fd ⟨[u], []⟩ [(x, u)]) /\
    ∀ base : Heap, (K w.params).In base -> base.Ns mainGlobals mg -> FnOk l.prog w (K w.params) mg base (CX w) k fa fd [x] (sp w))
  (hsp : ∀ (w : World) (H : Hp) (a : Addr) (ns : List Int), ns.length <= n -> Only H -> SqL (K w.params) H a (ns.map V.int) -> sp w [.ref a] H (fun v _ => v = .bl true) fun _ _ _ => False)
  (hCX : ∀ (w : World) (H : Hp) (s : Shared) (e : Value) (s' : Shared), CX w [] H s (fun _ _ _ => False) e s' -> False) :
  W.WalkO q loose XP YP l.row.toRowW d [] (fun f vs => PySem.call f vs) := by
 refine Att.attach_call hn hdf fun w s₀ s₁ mg mb fa o pm cd doc a vs ns G Y ho hd hcd hmg hobj hints hlen hg => ?_
 have KX := hY w _ Y
 obtain ⟨fd, hb, hF⟩ := F w mg fa _ KX G.T.g hmg
 exact law_call KX G.T.g G.T.b G.T.builtins G.T.nolimit hg hobj hints (Nat.le_trans hlen hn2) hr hF hb (fun H hO hS => hsp w H a ns hlen hO hS) fun H e s' => hCX w H s₁ e s'
end
section
def defArgs (s : Stmt) : Arguments := match s with
 | .FunctionDef _ a _ _ _ _ _ _ _ _ => a
 | _ => { posonlyargs := [], args := [], vararg := none, kwonlyargs := [], kw_defaults := [], kwarg := none, defaults := [] }
def defBody (s : Stmt) : List Stmt := match s with
 | .FunctionDef _ _ b _ _ _ _ _ _ _ => b
 | _ => []
def defScope (s : Stmt) : Scope := match s with
 | .FunctionDef _ _ _ _ _ _ sc _ _ _ => sc
 | _ => { kind := .function, names := [], isGenerator := false, isCoroutine := false }
abbrev CX0 : CXT := fun _ _ _ _ _ _ => False
abbrev E0 : XK := fun _ _ _ => False
theorem pass0 {X : Cx} : Passes CX0 X E0 := fun _ _ _ _ _ _ _ h => h.elim
structure Fun (K : W.Frag) (x qual : Str) (st : Stmt) (f : Addr) (fd : FuncData) : Prop where
 ex : ∃ (oc : Value) (od : Option Addr) (kV doc pm : Value) (an : Option Addr) (cdv ct : Value) (osl : Array (Option Value)),
  fd = W.fnOf x qual (defArgs st) (defBody st) (defScope st) .none kV doc pm an cdv ct /\ K.lookup f = some ⟨oc, od, .func fd, osl⟩ /\ W.codeIn K cdv qual = true
 kp : W.keepIn K (.ref f) = true
section
variable {P : Program} {w : World} {K : W.Frag} {mg : Str -> Option Value} {base : Heap}
theorem Fun.ok {x qual : Str} {st : Stmt} {f : Addr} {fd : FuncData} {N ps : List Str} {k : Nat} {sp : Sp} (F : Fun K x qual st f fd) (S : FnScope N ps (defScope st)) (len : ∀ vs H Q E, sp vs H Q E -> vs.length = ps.length)
  (hbody : ∀ (cdv : Value) (A : Around) (outer : List Env) (s : Shared) (H : Hp) (vs : List V) (Q : VK) (E : XK), Room k (A.deeper (envOfC qual (defScope st) s.heap.objs.size f cdv)) -> sp vs H Q E ->
   ∃ t, PSs (cxOf CX0 P w K mg base N qual (defScope st) f cdv A outer s H E).nox (defBody st) t /\ t { nx := fun _ H' => Q .non H', rt := Q } (start N vs) H) : FnOk P w K mg base CX0 (k + 1) f fd ps sp := by
 obtain ⟨oc, od, kV, doc, pm, an, cdv, ct, osl, rfl, lk, hcd⟩ := F.ex
 refine fn_of lk hcd S len fun A outer s H vs Q E hr hsp => ?_
 obtain ⟨t, h, q⟩ := hbody cdv A outer s H vs Q E hr hsp
 exact ⟨t, h.nox, q⟩
theorem Fun.binds {x qual : Str} {st : Stmt} {f : Addr} {fd : FuncData} {ps : List Str} (F : Fun K x qual st f fd)
  (h : ∀ (kV doc pm : Value) (an : Option Addr) (cdv ct : Value) (us : List Value), us.length = ps.length -> bindArgs (W.fnOf x qual (defArgs st) (defBody st) (defScope st) .none kV doc pm an cdv ct) ⟨us, []⟩ = pure (ps.zip us)) : Binds K fd ps [] := by
 obtain ⟨oc, od, kV, doc, pm, an, cdv, ct, osl, rfl, lk, hcd⟩ := F.ex
 exact .all (h kV doc pm an cdv ct)
theorem fun_mk {x qual : Str} {st : Stmt} {f : Addr} {oc : Value} {od an : Option Addr} {osl : Array (Option Value)} {kV doc pm cdv ct : Value} (l : K.lookup f = some ⟨oc, od, .func (W.fnOf x qual (defArgs st) (defBody st) (defScope st) .none kV doc pm an cdv ct), osl⟩)
  (c : W.codeIn K cdv qual = true) (k : W.keepIn K (.ref f) = true) : Fun K x qual st f (W.fnOf x qual (defArgs st) (defBody st) (defScope st) .none kV doc pm an cdv ct) := ⟨⟨oc, od, kV, doc, pm, an, cdv, ct, osl, rfl, l, c⟩, k⟩
end
section
variable {X : Cx}
theorem pv (i : Nat) {x : Str} {pos : Pos} (hN : X.N[i]? = some x := by rfl) (hv : Vis X.env.scope x := by first | exact Or.inl rfl | exact Or.inr (Or.inl rfl) | exact Or.inr (Or.inr rfl)) (hd : (x == ("__debug__" : Str)) = false := by decide)
  (hcd : (x == ("__classdict__" : Str)) = false := by decide) : PE X (.Name x pos) (tVar i) := pe_var hN hv hd hcd
end
theorem iteF {A B : Prop} (h : B) : if false = true then A else B := by
 rw [if_neg Bool.false_ne_true]
 exact h
theorem iteT {A B : Prop} (h : A) : if true = true then A else B := by
 rw [if_pos rfl]
 exact h
def Same (H H' : Hp) : Prop := ∀ b o, H b = some o -> H' b = some o
theorem Same.refl (H : Hp) : Same H H := fun _ _ h => h
theorem Same.trans {H H1 H2 : Hp} (a : Same H H1) (b : Same H1 H2) : Same H H2 := fun c o h => b c o (a c o h)
theorem Same.free {H H' : Hp} (e : Same H H') {l : Addr} (h : H' l = Option.none) : H l = Option.none := by
 cases q : H l with
 | none => rfl
 | some o =>
  rw [e l o q] at h
  cases h
theorem Same.seq {K : W.Frag} {H H' : Hp} {a : Addr} {xs : List V} (e : Same H H') (h : SqL K H a xs) : SqL K H' a xs := by
 rcases h with (h | ⟨o, h⟩) | h
 ·exact .inl (.inl (e _ _ h))
 ·exact .inl (.inr ⟨o, e _ _ h⟩)
 ·exact .inr h
end
section
def clOf (cells : List (Str × Addr)) : List (Str × NameKind) -> List (Str × Addr) -> List (Str × Addr)
 | [], cs => cs
 | (n, k) :: r, cs => if k = .free then (match cells.lookup n with | some c => clOf cells r ((n, c) :: cs) | none => clOf cells r cs) else clOf cells r cs
theorem closure_run {env : Env} : ∀ (names : List (Str × NameKind)) (cs : List (Str × Addr)), (∀ x ∈ names, x.2 = .free -> ∃ c, env.cells.lookup x.1 = some c) ->
  (forIn names cs fun x r => if (x.2 == NameKind.free) = true then do let c ← cellOf env x.1; pure (ForInStep.yield ((x.1, c) :: r)) else pure (ForInStep.yield r) : Sem (List (Str × Addr))) = pure (clOf env.cells names cs)
 | [], cs, _ => rfl
 | (n, k) :: r, cs, h => by
  have hr : ∀ x ∈ r, x.2 = .free -> ∃ c, env.cells.lookup x.1 = some c := fun x hx => h x (mem_cons_of_mem _ hx)
  rw [forIn_cons]
  by_cases hk : k = .free
  ·subst hk
   obtain ⟨c, hc⟩ := h (n, .free) mem_cons_self rfl
   have hc' : env.cells.lookup n = some c := hc
   have e : cellOf env n = pure c := by unfold cellOf; rw [hc']
   simp only [beq_self_eq_true, if_true, e, pure_bind]
   rw [closure_run r _ hr]
   simp only [clOf, if_true, hc']
  ·have hb : (k == NameKind.free) = false := by simpa using hk
   simp only [hb, Bool.false_eq_true, if_false, pure_bind]
   rw [closure_run r cs hr]
   simp only [clOf, hk, if_false]
theorem closureFor_clOf {env : Env} {scope : Scope} (h : ∀ x ∈ scope.names, x.2 = .free -> ∃ c, env.cells.lookup x.1 = some c) : closureFor scope env = pure (clOf env.cells scope.names []) := by
 have q := closure_run (env := env) scope.names [] h
 simp only [closureFor]
 refine Eq.trans ?_ q
 have e : ∀ (m : Sem (List (Str × Addr))), (m >>= fun cs => pure cs) = m := fun m => by simp
 first | (rw [e]; rfl) | rfl | simp
theorem clOf_sub {cells : List (Str × Addr)} {x : Str} {c : Addr} : ∀ (names : List (Str × NameKind)) (cs : List (Str × Addr)), (∀ y d, cs.lookup y = some d -> cells.lookup y = some d) -> (clOf cells names cs).lookup x = some c -> cells.lookup x = some c
 | [], cs, h, e => h x c e
 | (n, k) :: r, cs, h, e => by
  unfold clOf at e
  split at e
  ·split at e
   ·rename_i d hd
    refine clOf_sub r _ (fun y d' q => ?_) e
    rw [lookup_cons] at q
    split at q
    ·rename_i hy
     have : y = n := by simpa using hy
     subst this
     cases q; exact hd
    ·exact h y d' q
   ·exact clOf_sub r cs h e
  ·exact clOf_sub r cs h e
theorem clOf_mono {cells : List (Str × Addr)} {x : Str} : ∀ (names : List (Str × NameKind)) (cs : List (Str × Addr)), (cs.lookup x).isSome = true -> ((clOf cells names cs).lookup x).isSome = true
 | [], cs, h => h
 | (n, k) :: r, cs, h => by
  unfold clOf
  split
  ·split
   ·refine clOf_mono r _ ?_
    rw [lookup_cons]; split
    ·rfl
    ·exact h
   ·exact clOf_mono r cs h
  ·exact clOf_mono r cs h
theorem clOf_has {cells : List (Str × Addr)} {x : Str} {c : Addr} (hc : cells.lookup x = some c) : ∀ (names : List (Str × NameKind)) (cs : List (Str × Addr)), (x, NameKind.free) ∈ names -> ((clOf cells names cs).lookup x).isSome = true
 | [], cs, h => absurd h (by simp)
 | (n, k) :: r, cs, h => by
  unfold clOf
  rcases List.mem_cons.mp h with e | h
  ·cases e
   rw [if_pos rfl, hc]
   refine clOf_mono r _ ?_
   simp [lookup_cons]
  ·split
   ·split
    ·exact clOf_has hc r _ h
    ·exact clOf_has hc r cs h
   ·exact clOf_has hc r cs h
theorem lookup_relabel_free {env : Env} : ∀ {names : List (Str × NameKind)} {x : Str}, names.lookup x = some .free ->
  (names.map fun (n, k) => if (k == NameKind.free && env.scope.kind == .function && env.kindOf n == some .cell) then (n, NameKind.cell) else (n, k)).lookup x = some .cell \/
  (names.map fun (n, k) => if (k == NameKind.free && env.scope.kind == .function && env.kindOf n == some .cell) then (n, NameKind.cell) else (n, k)).lookup x = some .free
 | [], _, h => by simp at h
 | (n, k) :: r, x, h => by
  have ih := @lookup_relabel_free env r x
  show List.lookup x ((if (k == NameKind.free && env.scope.kind == .function && env.kindOf n == some .cell) = true then (n, NameKind.cell) else (n, k)) :: _) = _ \/ List.lookup x ((if (k == NameKind.free && env.scope.kind == .function && env.kindOf n == some .cell) = true then (n, NameKind.cell) else (n, k)) :: _) = _
  by_cases hc : (k == NameKind.free && env.scope.kind == .function && env.kindOf n == some .cell) = true
  ·rw [if_pos hc]
   cases hx : x == n with
   | true => left; simp only [lookup_cons, hx]
   | false => simp only [lookup_cons, hx] at h ⊢; exact ih h
  ·rw [if_neg hc]
   cases hx : x == n with
   | true => right; simp only [lookup_cons, hx] at h ⊢; exact h
   | false => simp only [lookup_cons, hx] at h ⊢; exact ih h
theorem relabel_free_mem {env : Env} : ∀ {names : List (Str × NameKind)} {x : Str} {k : NameKind}, (∀ y ∈ names, y.2 ≠ .cell) ->
  (names.map fun (n, k) => if (k == NameKind.free && env.scope.kind == .function && env.kindOf n == some .cell) then (n, NameKind.cell) else (n, k)).lookup x = some k -> (k = .cell \/ k = .free) -> (x, NameKind.free) ∈ names
 | [], _, _, _, h, _ => by simp at h
 | (n, k') :: r, x, k, hc0, h, hk => by
  have ih := @relabel_free_mem env r x k (fun y hy => hc0 y (mem_cons_of_mem _ hy))
  have h : List.lookup x ((if (k' == NameKind.free && env.scope.kind == .function && env.kindOf n == some .cell) = true then (n, NameKind.cell) else (n, k')) :: _) = _ := h
  by_cases hc : (k' == NameKind.free && env.scope.kind == .function && env.kindOf n == some .cell) = true
  ·rw [if_pos hc] at h
   have hf : k' = .free := by
    have := hc; simp only [Bool.and_eq_true] at this; simpa using this.1.1
   cases hx : x == n with
   | true =>
    have hxn : x = n := by simpa using hx
    subst hxn; subst hf; exact mem_cons_self
   | false => simp only [lookup_cons, hx] at h; exact mem_cons_of_mem _ (ih h hk)
  ·rw [if_neg hc] at h
   cases hx : x == n with
   | true =>
    have hxn : x = n := by simpa using hx
    subst hxn
    simp only [lookup_cons, hx] at h
    have e : k' = k := Option.some.inj h
    subst e
    rcases hk with hk | hk
    ·exact absurd hk (hc0 _ mem_cons_self)
    ·subst hk; exact mem_cons_self
   | false => simp only [lookup_cons, hx] at h; exact mem_cons_of_mem _ (ih h hk)
end
section
structure Blk (X : Cx) (sc : Scope) (N : List Str) (src : List (Option Nat)) : Prop where
 kind : sc.kind = .function
 nocell : ∀ y ∈ sc.names, y.2 ≠ .cell
 names : ∀ y ∈ sc.names, y.2 = .local -> sc.names.lookup y.1 = some .local
 free : ∀ y ∈ sc.names, y.2 = .free -> X.env.kindOf y.1 = some .cell \/ X.env.kindOf y.1 = some .free
 fv : ∀ (j i : Nat), src[j]? = some (some i) -> ∃ x, N[j]? = some x /\ X.N[i]? = some x /\ sc.names.lookup x = some .free
 len : src.length = N.length
def blk0 (src : List (Option Nat)) (σ : St) : St := src.map fun o => o.bind fun i => (σ[i]?).join
def blkCx (X : Cx) (sc : Scope) (C : Addr) (N : List Str) (fp : List Addr) (s : Shared) (H : Hp) : Cx where
 prog := X.prog
 w := X.w
 K := X.K
 mg := X.mg
 base := X.base
 A := X.A
 N := N
 s₀ := s
 H₀ := H
 env := compEnvC sc (clOf X.env.cells sc.names []) C X.env
 outer := X.stack
 stack := X.stack
 ex := fp
 fn := fun _ => false
 calm := true
 pn := []
 xe := fun _ _ => False
section
variable {X : Cx} {pins : List (Addr × Obj)} {σ : St} {H : Hp} {s : Shared}
theorem Blk.cl {sc : Scope} {N : List Str} {src : List (Option Nat)} (B : Blk X sc N src) (ok : X.Ok) : closureFor sc X.env = pure (clOf X.env.cells sc.names []) :=
 closureFor_clOf fun x hx hk => ok.has x.1 (B.free x hx hk)
theorem cl_sub {sc : Scope} {x : Str} {c : Addr} (h : (clOf X.env.cells sc.names []).lookup x = some c) : X.env.cells.lookup x = some c :=
 clOf_sub sc.names [] (fun y d e => by simp at e) h
theorem blk_start {sc : Scope} {N : List Str} {src : List (Option Nat)} {fp : List Addr} {D C : Addr} {h4 : Heap} {t : Nat} {m : Str -> Option Value}
  (B : Blk X sc N src) (I : Inv X pins σ H s) (hc : X.calm = true) (hf : ∀ b ∈ fp, FpOk X pins H b) (hfo : ∀ b ∈ fp, ∃ o, s.heap.get? b = some o)
  (hk : ∀ b o, s.heap.get? b = some o -> h4.get? b = some o) (hD : s.heap.objs.size <= D) (hDl : h4.get? D = some { cls := .type "list", data := .seq #[] 0 })
  (hn : h4.Ns C m) (hC : s.heap.objs.size <= C) (hDC : D ≠ C) :
  Inv (blkCx X sc C N fp s H) [] (blk0 src σ) (upd H D (.lst [])) { s with heap := h4, toks := t } := by
 have hHD : H D = none := I.hok.fresh hD
 have hHC : H C = none := I.hok.fresh hC
 have new : ObjOk X.prog X.w (upd H D (.lst [])) h4 D (.lst []) := ⟨Nat.zero_le _, [], 0, .nil, hDl⟩
 have cC : ∀ x c, X.env.cells.lookup x = some c -> c ≠ C := fun x c e z => by
  obtain ⟨v, q⟩ := I.cell x c e
  exact absurd (Nat.lt_of_lt_of_le q.lt (by rw [z]; exact hC)) (Nat.lt_irrefl _)
 have cD : ∀ x c, X.env.cells.lookup x = some c -> c ≠ D := fun x c e z => by
  obtain ⟨v, q⟩ := I.cell x c e
  exact absurd (Nat.lt_of_lt_of_le q.lt (by rw [z]; exact hD)) (Nat.lt_irrefl _)
 refine ⟨⟨I.ok.mod, ?_, I.ok.glob, I.ok.blt, hC, fun x y c h1 h2 => ?_, fun x hx => ?_, fun x c h _ => (by cases h), fun _ => I.ok.hd hc, I.ok.frames, .inl rfl, fun b hb => ⟨?_, fun x c e => ?_⟩, I.bs, Nat.le_trans I.ok.bsz I.sz, fun b o e hb => ?_, fun b hb z => ?_, I.stack, I.stkFree⟩,
  rfl, I.bare, Un.laid hk hD hHD, ⟨m, hn, fun i x v e1 e2 e3 => ?_⟩, fun x c e => ?_, ?_, fun x c e => ?_, fun p hp => ?_, I.hok.laid hk hD new, ?_⟩
 ·show (relabel sc X.env).kind = _
  exact B.kind
 ·exact I.ok.inj x y c (cl_sub h1) (cl_sub h2)
 ·have hx' : (∃ k, (relabel sc X.env).names.lookup x = some k /\ (k = .cell \/ k = .free)) := by
   rcases hx with hx | hx
   ·exact ⟨_, hx, .inl rfl⟩
   ·exact ⟨_, hx, .inr rfl⟩
  obtain ⟨k, e, hk'⟩ := hx'
  have hm := relabel_free_mem B.nocell e hk'
  obtain ⟨c, hc'⟩ := I.ok.has x (B.free _ hm rfl)
  exact Option.isSome_iff_exists.mp (clOf_has hc' sc.names [] hm)
 ·obtain ⟨o, e⟩ := hfo b hb
  exact Nat.ne_of_lt (Nat.lt_of_lt_of_le (Heap.lt_size e) hC)
 ·exact (hf b hb).2.2.2.2.1 x c (cl_sub e)
 ·rcases (hf b hb).2.2.2.1 with z | z
  ·exact I.ok.noex b o e z
  ·exact absurd (Nat.lt_of_lt_of_le (Heap.lt_size e) (Nat.le_trans I.ok.bsz z)) (Nat.lt_irrefl _)
 ·rcases List.mem_cons.mp (I.stkSub b z) with z | z
  ·exact (hf b hb).2.1 z
  ·exact (hf b hb).2.2.1 z
 ·have e2' : ∃ k, src[i]? = some (some k) /\ σ[k]? = some (some v) := by
   unfold blk0 at e2
   rw [getElem?_map] at e2
   cases q : src[i]? with
   | none => rw [q] at e2; cases e2
   | some o =>
    rw [q] at e2
    cases o with
    | none => cases e2
    | some k =>
     refine ⟨k, rfl, ?_⟩
     have e2 : (σ[k]?).join = some v := Option.some.inj e2
     cases qq : σ[k]? with
     | none => rw [qq] at e2; cases e2
     | some z => rw [qq] at e2; exact congrArg some e2
  obtain ⟨k, ek, ev⟩ := e2'
  obtain ⟨x', n1, n2, n3⟩ := B.fv i k ek
  have : x' = x := by
   have e1 : N[i]? = some x := e1
   rw [n1] at e1; exact Option.some.inj e1
  subst this
  obtain ⟨m0, hn0, hl0⟩ := I.loc
  have hfk := B.free (x', .free) (PySem.mem_of_lookup n3) rfl
  obtain ⟨u, r, l⟩ := hl0 k x' v n2 ev (by rcases hfk with z | z; exact .inr (.inl z); exact .inr (.inr z))
  refine ⟨u, r, .inr ⟨?_, ?_⟩⟩
  ·exact lookup_relabel_free n3
  ·rcases l with ⟨l, _⟩ | ⟨_, c, ec, z⟩
   ·rcases hfk with q | q <;> (rw [q] at l; cases l)
   ·obtain ⟨c', ec'⟩ := Option.isSome_iff_exists.mp (clOf_has ec sc.names [] (PySem.mem_of_lookup n3))
    have := cl_sub ec'
    rw [ec] at this; cases this
    obtain ⟨o, ho, hd⟩ := z
    exact ⟨c, ec', o, hk c o ho, hd⟩
 ·obtain ⟨v, o, ho, hd⟩ := I.cell x c (cl_sub e)
  exact ⟨v, o, hk c o ho, hd⟩
 ·show upd H D _ C = none
  rw [upd_ne (Ne.symm hDC)]; exact hHC
 ·rw [upd_ne (cD x c (cl_sub e))]; exact I.freeC x c (cl_sub e)
 ·exact absurd (show p ∈ ([] : List (Addr × Obj)) ++ [] from hp) (by simp)
 ·show (blk0 src σ).length = N.length
  unfold blk0; rw [length_map]; exact B.len
end
end
section
abbrev noE : Value -> Shared -> Prop := fun _ _ => False
theorem toE {α : Type} {t : Sem α} {Q Q' : α -> Shared -> Prop} {M : Model} {A : Around} {E : Value -> Shared -> Prop} {s : Shared} (h : wpAny M A t Q noE s) (hQ : ∀ a s, Q a s -> Q' a s) : wpAny M A t Q' E s :=
 wpAny_mono h hQ fun _ _ x => x.elim
abbrev compTests (ifs : List Expr) (env : Env) : Sem Bool := forIn ifs true fun c r => if r = true then do let ok ← isTrue c env (eval c env); pure (ForInStep.yield ok) else pure (ForInStep.yield r)
theorem compLoop_any {prog : Program} {w : World} {A : Around} {R : Result -> Shared -> Prop} {s : Shared} {elt target iter : Expr} {ifs : List Expr} {scope : Scope} {pos : Pos} {it acc : Value} {env : Env} (I : Nat -> Shared -> Prop)
  (turn : ∀ n s, I n s -> wpAny (model prog w) A (pyNext it) (fun r s₁ => match r with
   | none => R (.ok .next) s₁
   | some v => wpAny (model prog w) A (letOwnedTupleGo target it v) (fun _ s₁' => wpAny (model prog w) A (assign target env v) (fun _ s₂ =>
     wpAny (model prog w) A (compTests ifs env) (fun ok s₃ =>
      if ok = true then wpAny (model prog w) A (eval elt env) (fun x s₄ =>
       wpAny (model prog w) A (call (.builtin "list.append") [acc, x]) (fun _ s₅ => ∃ m, m < n /\ I m s₅) noE s₄) noE s₃
      else ∃ m, m < n /\ I m s₃) noE s₂) noE s₁') noE s₁) noE s)
  (n : Nat) (h : I n s) :
  codeAny (model prog w) A (.compLoop (.ListComp elt [⟨target, iter, ifs, 0⟩] scope pos) 0 it acc env) R s := by
 refine codeAny_loop rfl I (fun n s hI => ?_) n h
 show wpAny _ A ((compTurn (.ListComp elt [⟨target, iter, ifs, 0⟩] scope pos) 0 it acc env).onRaise (fun x => do noteFrame x env; theTreesLotGoes x)) _ _ s
 refine wpAny_noted ?_
 rw [compTurn_list]
 refine wpAny_bind (wpAny_standAt (wpAny_bind (toE (turn n s hI) (fun r s₁ h₁ => ?_))))
 cases r with
 | none => exact wpAny_pure h₁
 | some v =>
  refine wpAny_bind (toE h₁ fun _ s₁' h₁' => ?_)
  refine wpAny_bind (toE h₁' (fun _ s₂ h₂ => wpAny_bind (toE h₂ (fun ok s₃ h₃ => ?_))))
  cases ok with
  | false => exact wpAny_pure ⟨rfl, h₃⟩
  | true =>
   exact wpAny_bind (wpAny_bind (toE h₃ (fun x s₄ h₄ => wpAny_bind (toE h₄ (fun _ s₅ h₅ => wpAny_pure (wpAny_pure ⟨rfl, h₅⟩))))))
def PTs (X : Cx) (ifs : List Expr) (t : TT) : Prop :=
 ∀ (pins : List (Addr × Obj)) (s : Shared) (σ : St) (H : Hp) (Q : Bool -> Hp -> Prop), Inv X pins σ H s -> t σ H Q -> wpAny (model X.prog X.w) X.A (compTests ifs X.env) (TP X pins σ Q) X.xe s
def tYes : TT := fun _ H Q => Q true H
theorem pts_nil {X : Cx} : PTs X [] tYes := fun pins s σ H Q I h => wpAny_pure ⟨H, I, h⟩
theorem pts_one {X : Cx} {c : Expr} {t : TT} (h : PT X c t) : PTs X [c] t := fun pins s σ H Q I q => wpAny_tests_one (h pins s σ H Q I q)
def tComp (src : List (Option Nat)) (wi : TI) (g : TG) (tc : TT) (te : TE) : TE := fun σ H Q => wi σ H fun J H1 => ∀ D, H1 D = none -> ∃ W : Nat -> Nat -> St -> Hp -> Prop, (∃ m, W 0 m (blk0 src σ) (upd H1 D (.lst []))) /\ ∀ i m σ' H', W i m σ' H' ->
 (J.stop i H' /\ Q (.ref D) H') \/ (J.go i H' /\ ∃ N : St -> Hp -> Prop, (∀ σ2 H2, N σ2 H2 -> ∃ m', m' < m /\ W (i + 1) m' σ2 H2) /\ ∀ x H2, J.yld i H' x H2 -> g x σ' H2 fun σ3 H3 => tc σ3 H3 fun b H4 =>
  if b = true then te σ3 H4 fun y H5 => ∃ xs, H5 D = some (.lst xs) /\ xs.length < sizeLine /\ N σ3 (upd H5 D (.lst (xs ++ [y]))) else N σ3 H4)
section
variable {X : Cx}
theorem comp_block {sc : Scope} {N : List Str} {src : List (Option Nat)} {tg elt iter : Expr} {ifs : List Expr} {pos : Pos} {g : TG} {tc : TT} {te : TE} (B : Blk X sc N src) (hc : X.calm = true)
  (hg : ∀ C fp s H, PG (blkCx X sc C N fp s H) tg g) (ht : ∀ C fp s H, PTs (blkCx X sc C N fp s H) ifs tc) (he : ∀ C fp s H, PE (blkCx X sc C N fp s H) elt te)
  {pins : List (Addr × Obj)} {σ : St} {H : Hp} {s : Shared} {it : Addr} {fp : List Addr} {tn : Nat -> Heap -> Prop} {J : It} {Q : VK} {E : Value -> Shared -> Prop}
  (I : Inv X pins σ H s) (T : Turn X.prog X.w X.K tg J fp it tn) (st : tn 0 s.heap) (hf : ∀ b ∈ fp, FpOk X pins H b)
  (hW : ∀ D, H D = none -> ∃ W : Nat -> Nat -> St -> Hp -> Prop, (∃ m, W 0 m (blk0 src σ) (upd H D (.lst []))) /\ ∀ i m σ' H', W i m σ' H' ->
   (J.stop i H' /\ Q (.ref D) H') \/ (J.go i H' /\ ∃ N : St -> Hp -> Prop, (∀ σ2 H2, N σ2 H2 -> ∃ m', m' < m /\ W (i + 1) m' σ2 H2) /\ ∀ x H2, J.yld i H' x H2 -> g x σ' H2 fun σ3 H3 => tc σ3 H3 fun b H4 =>
    if b = true then te σ3 H4 fun y H5 => ∃ xs, H5 D = some (.lst xs) /\ xs.length < sizeLine /\ N σ3 (upd H5 D (.lst (xs ++ [y]))) else N σ3 H4))
  {RR : Value -> Addr -> Result -> Shared -> Prop}
  (hRR : ∀ D C H' s' m', Inv X pins σ H' s' -> s'.heap.Ns C m' -> H' C = none -> s.heap.objs.size <= C -> Q (.ref D) H' -> RR (.ref D) C (.ok .next) s') :
  wpAny (model X.prog X.w) X.A (newList []) (fun acc s₃ => wpAny (model X.prog X.w) X.A (newFunctionEnv sc X.env.globals (clOf X.env.cells sc.names []) [] X.env.qual none .none (some X.env)) (fun cenv s₄ =>
   codeAny (model X.prog X.w) X.A (.compStart (.ListComp elt [⟨tg, iter, ifs, 0⟩] sc pos) 0 (.ref it) acc { cenv with scope := relabel sc X.env }) (RR acc cenv.locals) s₄) E s₃) E s := by
 refine wpAny_newObj_type (wpAny_newFunctionEnv B.nocell (by intro y hy; simp at hy) (fun h₁ hns₁ hsb₁ => ?_) B.kind)
 dsimp only at hns₁ hsb₁ ⊢
 generalize hH2 : s.heap.push { cls := .type "list", dict := none, data := .seq ([] : List Value).toArray } = H2 at hns₁ hsb₁ ⊢
 have hC : H2.objs.size = s.heap.objs.size + 1 := by rw [<- hH2, Heap.size_push]
 have hDC : s.heap.objs.size ≠ H2.objs.size := by rw [hC]; exact Nat.ne_of_lt (Nat.lt_succ_self _)
 have hCle : s.heap.objs.size <= H2.objs.size := by rw [hC]; exact Nat.le_succ _
 have below : ∀ b, b < s.heap.objs.size -> b ≠ H2.objs.size := fun b hb => by rw [hC]; exact Nat.ne_of_lt (Nat.lt_succ_of_lt hb)
 have old : ∀ b o, s.heap.get? b = some o -> h₁.get? b = some o := fun b o e => hsb₁.extBut b o (below b (Heap.lt_size e)) (Heap.get?_push_of_some _ (hH2 ▸ Heap.get?_push_of_some _ e))
 have hacc : h₁.get? s.heap.objs.size = some { cls := .type "list", data := .seq #[] 0 } := hsb₁.extBut _ _ hDC (Heap.get?_push_of_some _ (hH2 ▸ Heap.get?_push_size _ rfl))
 have hfo : ∀ b ∈ fp, ∃ o, s.heap.get? b = some o := fun b hb => by obtain ⟨o, e, _⟩ := T.obj _ _ st b hb; exact ⟨o, e⟩
 have st1 : tn 0 h₁ := T.keep _ _ _ st fun b _ o e => old b o e
 obtain ⟨W, ⟨m0, w0⟩, turn⟩ := hW s.heap.objs.size I.fresh
 have I1 := blk_start (t := s.toks + ([] : List (Str × Value)).length) B I hc hf hfo old (Nat.le_refl _) hacc hns₁ hCle hDC
 have stat : ∀ {H' : Hp}, (∀ b ∈ fp, H' b = none) -> ∀ b ∈ fp, FpOk (blkCx X sc H2.objs.size N fp s H) [] H' b := fun {H'} hn b hb => by
  obtain ⟨f0, f1, f2, f3, f4, f5⟩ := hf b hb
  refine ⟨hn b hb, I1.ok.exf b hb |>.1, I1.ok.exfs b hb, .inl hb, fun x c e => f4 x c (cl_sub e), fun p hp => absurd (show p ∈ ([] : List (Addr × Obj)) ++ [] from hp) (by simp)⟩
 have hfD : ∀ b ∈ fp, b ≠ s.heap.objs.size := fun b hb z => by
  obtain ⟨o, e⟩ := hfo b hb
  exact absurd (Heap.lt_size e) (by rw [z]; exact Nat.lt_irrefl _)
 have loop : ∀ s₃ : Shared, s₃ = { s with heap := h₁, toks := s.toks + ([] : List (Str × Value)).length } ->
   codeAny (model X.prog X.w) X.A (.compLoop (.ListComp elt [⟨tg, iter, ifs, 0⟩] sc pos) 0 (.ref it) (.ref s.heap.objs.size) (compEnvC sc (clOf X.env.cells sc.names []) H2.objs.size X.env))
    (RR (.ref s.heap.objs.size) H2.objs.size) s₃ := by
  rintro s₃ rfl
  refine compLoop_any (fun n s' => ∃ i σ' H', Inv (blkCx X sc H2.objs.size N fp s H) [] σ' H' s' /\ tn i s'.heap /\ (∀ b ∈ fp, H' b = none) /\ W i n σ' H') ?_ m0
   ⟨0, _, _, I1, st1, fun b hb => by rw [upd_ne (hfD b hb)]; exact (hf b hb).1, w0⟩
  rintro n s3 ⟨i, σ3, H3, I3, st3, fr3, w3⟩
  rcases turn i n σ3 H3 w3 with ⟨stop, qn⟩ | ⟨go, N', hN', step⟩
  ·refine thn (T.done (blkCx X sc H2.objs.size N fp s H) rfl rfl rfl rfl i [] s3 σ3 H3 noE I3 (stat fr3) st3 stop) fun r s4 ⟨hr, I4⟩ => ?_
   subst hr
   obtain ⟨m4, hn4, _⟩ := id I4.loc
   refine hRR _ _ H3 s4 m4 ?_ hn4 I4.free hCle qn
   exact I.call' (ch := fp) I4.os I4.base I4.hok I4.bare fun b hb => ⟨(hf b hb).2.2.2.1, (hf b hb).2.1, (hf b hb).2.2.2.2.1, (hf b hb).2.2.2.2.2⟩
  ·refine thn (T.item (blkCx X sc H2.objs.size N fp s H) rfl rfl rfl rfl i [] s3 σ3 H3 noE I3 (stat fr3) st3 go) fun r s4 ⟨u, hr, h4⟩ => ?_
   subst hr
   refine thn h4 fun _ s5 hpat => ?_
   obtain ⟨x, H5, I5, r5, y5, st5, fr5⟩ := hpat
   have I5' := I5.pinned (stat fr5) (T.obj _ _ st5)
   have again : ∀ {s7 : Shared} {σ7 : St} {H7 : Hp}, Inv (blkCx X sc H2.objs.size N fp s H) ([] ++ pinsAt fp s5.heap) σ7 H7 s7 -> N' σ7 H7 -> ∃ m, m < n /\ ∃ i σ' H', Inv (blkCx X sc H2.objs.size N fp s H) [] σ' H' s7 /\ tn i s7.heap /\ (∀ b ∈ fp, H' b = none) /\ W i m σ' H' := fun {s7 σ7 H7} I7 n7 => by
    obtain ⟨m', hm, w7⟩ := hN' σ7 H7 n7
    refine ⟨m', hm, i + 1, σ7, H7, I7.unpinned, T.keep _ _ _ st5 fun b hb o e => (I7.pin (b, o) (mem_append_right _ (mem_append_right _ (mem_pinsAt hb e)))).1, fun b hb => ?_, w7⟩
    obtain ⟨o, e, d⟩ := T.obj _ _ st5 b hb
    exact (I7.pin (b, o) (mem_append_right _ (mem_append_right _ (mem_pinsAt hb e)))).2.1
   refine thn (hg _ _ _ _ _ s5 σ3 H5 x u _ I5' r5 (step x H5 y5)) fun _ s6 hpat => ?_
   obtain ⟨σ6, H6, I6, q6⟩ := hpat
   refine thn (ht _ _ _ _ _ s6 σ6 H6 _ I6 q6) fun ok s7 hpat => ?_
   obtain ⟨H7, I7, q7⟩ := hpat
   cases ok with
   | false =>
    rw [if_neg Bool.false_ne_true] at q7 ⊢
    exact again I7 q7
   | true =>
    rw [if_pos rfl] at q7 ⊢
    refine thn (he _ _ _ _ _ s7 σ6 H7 _ I7 q7) fun y s8 hpat => ?_
    obtain ⟨v8, H8, I8, r8, q8⟩ := hpat
    obtain ⟨xs, hD8, hz8, n8⟩ := q8
    refine thn (mt_append _ s8 σ6 H8 (.ref s.heap.objs.size) [v8] (.ref s.heap.objs.size) [y] (fun _ H9 => H9 = upd H8 s.heap.objs.size (.lst (xs ++ [v8]))) I8 rfl (.cons r8 .nil) ⟨_, xs, v8, rfl, rfl, hD8, hz8, rfl⟩) fun _ s9 hpat => ?_
    obtain ⟨v9, H9, I9, r9, q9⟩ := hpat
    subst q9
    exact again I9 n8
 refine codeAny_compStart_list (loop _ rfl) (toE (T.self X.A 0 { s with heap := h₁, toks := s.toks + ([] : List (Str × Value)).length } (fun v s' => v = .ref it /\ s' = { s with heap := h₁, toks := s.toks + ([] : List (Str × Value)).length }) noE st1 ⟨rfl, rfl⟩) fun v s' hpat => ?_)
 obtain ⟨e1, e2⟩ := hpat
 subst e1; subst e2
 exact loop _ rfl
theorem Inv.letGo {pins : List (Addr × Obj)} {σ : St} {H : Hp} {s s0 : Shared} {C : Addr} {h' : Heap} (I : Inv X pins σ H s) (I0 : ∃ σ0 H0, Inv X pins σ0 H0 s0) (hC : s0.heap.objs.size <= C) (hn : H C = none) (hs : Heap.SameBut C s.heap h') : Inv X pins σ H { s with heap := h' } := by
 obtain ⟨σ0, H0, I0⟩ := I0
 refine I.turned (t' := s.toks) (it := C) (fun b o hb e => (hs.2 b hb).trans e) hn (Nat.ne_of_gt (Nat.lt_of_lt_of_le I0.lt hC)) (.inr (Nat.le_trans I0.sz hC)) (fun x c e z => ?_) fun p hp z => ?_
 ·obtain ⟨v, q⟩ := I0.cell x c e
  exact absurd (Nat.lt_of_lt_of_le q.lt (by rw [z]; exact hC)) (Nat.lt_irrefl _)
 ·exact absurd (Nat.lt_of_lt_of_le (Heap.lt_size (I0.pin p hp).1) (by rw [z]; exact hC)) (Nat.lt_irrefl _)
theorem pe_comp {sc : Scope} {N : List Str} {src : List (Option Nat)} {tg elt iter : Expr} {ifs : List Expr} {pos : Pos} {wi : TI} {g : TG} {tc : TT} {te : TE} (B : Blk X sc N src) (hc : X.calm = true)
  (hi : PI X tg iter wi) (hg : ∀ C fp s H, PG (blkCx X sc C N fp s H) tg g) (ht : ∀ C fp s H, PTs (blkCx X sc C N fp s H) ifs tc) (he : ∀ C fp s H, PE (blkCx X sc C N fp s H) elt te)
  (hs : ∀ x, foldedSetIterable iter X.env x = pure x := by intro _; rfl) :
  PE X (.ListComp elt [⟨tg, iter, ifs, 0⟩] sc pos) (tComp src wi g tc te) := by
 intro pins s σ H Q I h
 rw [eval_ListComp]
 refine wpAny_comprehension_free (use := none) rfl hs (B.cl I.ok) B.kind B.names (wpAny_mono (hi pins s σ H _ I h) (fun xv s₁ h₁ => wpAny_mono h₁ (fun itv s₂ h₂ => ?_) fun _ _ e => e) fun _ _ e => e)
 obtain ⟨it, fp, tn, J, H2, rfl, I2, T, st2, f2, hW⟩ := h₂
 refine comp_block (RR := fun acc C => compPost (model X.prog X.w) X.A X.xe none (EP X pins σ Q) acc C) (Q := Q) B hc hg ht he I2 T st2 f2 hW ?_
 intro D C H' s' m' I' hn hC hCs q
 exact ⟨m', hn, fun h'' hs'' => ⟨.ref D, H', I'.letGo ⟨_, _, I2⟩ hCs hC hs'', rfl, q⟩⟩
theorem ps_setC {i : Nat} {y : Str} {py : Pos} {sc : Scope} {N : List Str} {src : List (Option Nat)} {tg elt iter : Expr} {ifs : List Expr} {pos spos : Pos} {wi : TI} {g : TG} {tc : TT} {te : TE} (hN : X.N.Nodup) (hi' : X.N[i]? = some y) (hx : Loc X.env.scope y)
  (B : Blk X sc N src) (hc : X.calm = true)
  (hi : PI X tg iter wi) (hg : ∀ C fp s H, PG (blkCx X sc C N fp s H) tg g) (ht : ∀ C fp s H, PTs (blkCx X sc C N fp s H) ifs tc) (he : ∀ C fp s H, PE (blkCx X sc C N fp s H) elt te)
  (hsw : swapsWith (.ListComp elt [⟨tg, iter, ifs, 0⟩] sc pos) (some (.Name y py)) spos.line X.env = pure true := by rfl)
  (hs : ∀ x, foldedSetIterable iter X.env x = pure x := by intro _; rfl) (hf : X.fn y = true \/ X.env.scope.names.lookup y = some .local := by first | exact .inl rfl | exact .inr rfl | assumption) :
  PS X (.Assign [.Name y py] (.ListComp elt [⟨tg, iter, ifs, 0⟩] sc pos) spos) (tAsg (tComp src wi g tc te) (gName i)) := by
 intro pins s σ H Dn I h
 rw [exec_Assign_Name_used _ _ _ _ hsw]
 refine wpAny_bind (wpAny_standAt (wpAny_bind ?_))
 show wpAny _ _ (do let _ ← comprehension (.ListComp elt [⟨tg, iter, ifs, 0⟩] sc pos) sc X.env _ (newList []) false (eval iter X.env) (some (assign (.Name y py) X.env))) _ _ s
 refine wpAny_bind (wpAny_mono (wpAny_comprehension_free (use := some (assign (.Name y py) X.env)) (Q := fun _ s' => SP X pins Dn .next s') rfl hs (B.cl I.ok) B.kind B.names
  (wpAny_mono (hi pins s σ H _ I h) (fun xv s₁ h₁ => wpAny_mono h₁ (fun itv s₂ h₂ => ?_) fun _ _ e => e) fun _ _ e => e)) (fun _ s' hq => wpAny_pure (wpAny_pure hq)) fun _ _ e => e)
 obtain ⟨it, fp, tn, J, H2, rfl, I2, T, st2, f2, hW⟩ := h₂
 refine comp_block (RR := fun acc C => compPost (model X.prog X.w) X.A X.xe (some (assign (.Name y py) X.env)) (fun _ s' => SP X pins Dn .next s') acc C) (Q := fun x H1 => gName i x σ H1 Dn.nx) B hc hg ht he I2 T st2 f2 hW ?_
 intro D C H' s' m' I' hn hC hCs q
 show wpAny _ _ (assign (.Name y py) X.env (.ref D)) _ _ _
 refine wpAny_assign_Name (store_ok2 I' hN hi' hx (v := .ref D) rfl (fun s'' I'' hpat => ?_) hf)
 obtain ⟨a, hsb, ha⟩ := hpat
 have hCa : C ≠ a := fun z => by
  rcases ha with ha | ha
  ·have := I2.lt; rw [<- ha, <- z] at this
   exact absurd (Nat.lt_of_lt_of_le this hCs) (Nat.lt_irrefl _)
  ·obtain ⟨v, qv⟩ := I2.cell y a ha
   exact absurd (Nat.lt_of_lt_of_le qv.lt (by rw [<- z]; exact hCs)) (Nat.lt_irrefl _)
 exact ⟨m', hn.sameBut hsb hCa, fun h'' hs'' => ⟨_, H', I''.letGo ⟨_, _, I2⟩ hCs hC hs'', q⟩⟩
end
end
section
section
variable {X : Cx} {pins : List (Addr × Obj)} {σ : St} {H : Hp} {s : Shared} {h' : Heap}
theorem Inv.turnedL {t' : Nat} {fp : List Addr} (I : Inv X pins σ H s) (k : ∀ b o, b ∉ fp -> s.heap.get? b = some o -> h'.get? b = some o) (hf : ∀ b ∈ fp, FpOk X pins H b) : Inv X pins σ H { s with heap := h', toks := t' } := by
 have nit : ∀ b u, H b = some u -> b ∉ fp := fun b u e z => by rw [(hf b z).1] at e; cases e
 refine I.step (g' := s.gens) (d' := s.drawn) (ch := fp) (fun b hb => ⟨(hf b hb).2.2.2.1, (hf b hb).2.1, (hf b hb).2.2.2.2.1, (hf b hb).2.2.2.2.2⟩) (fun b o _ _ hc e _ => k b o hc e) (fun b o _ _ hc e _ => ⟨o.slots, k b o hc e⟩) (fun _ _ _ _ n => n)
  (fun b o hc e => ⟨o, k b o hc e⟩) (fun _ _ e => e) (fun _ _ _ e => e) (fun b ps e => ⟨#[], by rw [e]; simp⟩) (fun m hm => ?_) (fun b u e => ?_) I.bare
 ·obtain ⟨o, es, ep, ho, r⟩ := hm
  exact ⟨o, es, ep, k _ o (fun z => (hf _ z).2.1 rfl) ho, r⟩
 ·refine (I.hok b u e).stay (fun c v hc q => k c v ?_ q) (fun _ q => q) fun _ _ q => q
  rcases hc with z | z
  ·rw [z]; exact nit b u e
  ·exact nit c _ z
theorem Inv.turnedN {t' : Nat} {fp : List Addr} {T : Addr} {o : HO} (I : Inv X pins σ H s) (k : ∀ b o, b ∉ fp -> s.heap.get? b = some o -> h'.get? b = some o) (hf : ∀ b ∈ fp, FpOk X pins H b) (hT : s.heap.objs.size <= T)
  (new : ObjOk X.prog X.w (upd H T o) h' T o) : Inv X pins σ (upd H T o) { s with heap := h', toks := t' } := by
 have hn : H T = none := I.hok.fresh hT
 have ne : ∀ b u, s.heap.get? b = some u -> b ≠ T := fun b u e z => absurd (Nat.lt_of_lt_of_le (Heap.lt_size e) (by rw [z]; exact hT)) (Nat.lt_irrefl _)
 have nit : ∀ b u, H b = some u -> b ∉ fp := fun b u e z => by rw [(hf b z).1] at e; cases e
 refine I.step (g' := s.gens) (d' := s.drawn) (ch := fp) (fun b hb => ⟨(hf b hb).2.2.2.1, (hf b hb).2.1, (hf b hb).2.2.2.2.1, (hf b hb).2.2.2.2.2⟩) (fun b o _ _ hc e _ => k b o hc e) (fun b o _ _ hc e _ => ⟨o.slots, k b o hc e⟩) (fun b o _ e n => by rw [upd_ne (ne b o e)]; exact n)
  (fun b o hc e => ⟨o, k b o hc e⟩) (fun b xs e => by rw [upd_ne (ne_of_none e hn)]; exact e) (fun b _ _ e => by rw [upd_ne (ne_of_none e hn)]; exact e) (fun b ps e => ⟨#[], by rw [upd_ne (ne_of_none e hn), e]; simp⟩) (fun m hm => ?_) (fun b u e => ?_) I.bare
 ·obtain ⟨o, es, ep, ho, r⟩ := hm
  exact ⟨o, es, ep, k _ o (fun z => (hf _ z).2.1 rfl) ho, r⟩
 ·by_cases hb : b = T
  ·subst hb; rw [upd_same] at e; cases e; exact new
  ·rw [upd_ne hb] at e
   refine (I.hok b u e).stay (fun c v hc q => k c v ?_ q) (fun c q => by rw [upd_ne (ne_of_none q hn)]; exact q) fun c xs q => by rw [upd_ne (ne_of_none q hn)]; exact q
   rcases hc with z | z
   ·rw [z]; exact nit b u e
   ·exact nit c _ z
end
def Itz2 (K : W.Frag) (l1 l2 : Addr) : It :=
 ⟨fun i H => ∃ xs ys x y, SqL K H l1 xs /\ SqL K H l2 ys /\ xs[i]? = some x /\ ys[i]? = some y,
  fun i H v H' => ∃ t x y, v = .ref t /\ H t = none /\ H' = upd H t (.tup [x, y]) /\ (∀ xs, SqL K H l1 xs -> xs[i]? = some x) /\ (∀ ys, SqL K H l2 ys -> ys[i]? = some y),
  fun i H => ∃ xs ys, SqL K H l1 xs /\ SqL K H l2 ys /\ (xs.length <= i \/ ys.length <= i)⟩
structure Zip2 (z TI TO i1 i2 : Addr) : Prop where
 TIz : TI ≠ z
 TOz : TO ≠ z
 i1z : i1 ≠ z
 i2z : i2 ≠ z
 TITO : TI ≠ TO
 TIi1 : TI ≠ i1
 TIi2 : TI ≠ i2
 TOi1 : TO ≠ i1
 TOi2 : TO ≠ i2
 i12 : i1 ≠ i2
theorem ne_cls {h : Heap} {a b : Addr} {o u : Obj} (e : h.get? a = some o) (e' : h.get? b = some u) (d : o.cls ≠ u.cls) : a ≠ b := by
 intro z; subst z; rw [e] at e'; exact d (congrArg Obj.cls (Option.some.inj e'))
theorem list_ne_of {n : String} (h : ("list" == n) = false) : Value.type "list" ≠ Value.type n := fun e => by cases e; revert h; decide
theorem zip2_new (n : Nat) : Zip2 (n + 4) (n + 2) (n + 3) n (n + 1) := by
 constructor <;> (show ((_ : Nat) ≠ _); omega)
theorem zip2_apart {h : Heap} {z TI TO i1 i2 l1 l2 : Addr} {its1 its2 : Array Value} {a b f0 : Value} {k1 k2 : Nat} (D : Zip2 z TI TO i1 i2) (hz : IsZip h z TI TO f0) (hTO : IsPair h TO a b) (h1 : h.IsListIter i1 l1 k1) (h2 : h.IsListIter i2 l2 k2)
  (p1 : h.IsList l1 its1) (p2 : h.IsList l2 its2) : ZipApart z TI TO i1 i2 l1 l2 := by
 obtain ⟨o1, e1, c1, _⟩ := h1
 obtain ⟨o2, e2, c2, _⟩ := h2
 obtain ⟨p1o, pe1, pc1, _⟩ := p1
 obtain ⟨p2o, pe2, pc2, _⟩ := p2
 exact ⟨D.TIz, D.TOz, D.i1z, D.i2z, D.TITO, D.TIi1, D.TIi2, D.TOi1, D.TOi2, D.i12,
  ne_cls pe1 hz (by rw [pc1]; exact list_ne_of (by decide)), ne_cls pe1 hTO (by rw [pc1]; exact list_ne_of (by decide)), ne_cls pe1 e1 (by rw [pc1, c1]; decide), ne_cls pe1 e2 (by rw [pc1, c2]; decide),
  ne_cls pe2 hz (by rw [pc2]; exact list_ne_of (by decide)), ne_cls pe2 hTO (by rw [pc2]; exact list_ne_of (by decide)), ne_cls pe2 e1 (by rw [pc2, c1]; decide), ne_cls pe2 e2 (by rw [pc2, c2]; decide)⟩
theorem turn_zip2 {P : Program} {w : World} {K : W.Frag} {es : List Expr} {tk : Nat} {tp : Pos} (z TI TO i1 i2 l1 l2 : Addr) (D : Zip2 z TI TO i1 i2) :
  Turn P w K (.Tuple es tk tp) (Itz2 K l1 l2) [z, TI, TO, i1, i2] z
   (fun i h => IsZip h z TI TO .none /\ IsPair h TI (.ref i1) (.ref i2) /\ (∃ a b, IsPair h TO a b) /\ h.IsListIter i1 l1 i /\ h.IsListIter i2 l2 i) where
 mem := by simp
 obj := fun i h st b hb => by
  obtain ⟨hz, hTI, ⟨a, c, hTO⟩, ⟨o1, e1, _, d1⟩, ⟨o2, e2, _, d2⟩⟩ := st
  simp only [mem_cons, not_mem_nil, or_false] at hb
  rcases hb with rfl | rfl | rfl | rfl | rfl
  ·exact ⟨_, hz, fun v q => by cases q⟩
  ·exact ⟨_, hTI, fun v q => by cases q⟩
  ·exact ⟨_, hTO, fun v q => by cases q⟩
  ·exact ⟨_, e1, fun v q => by rw [d1] at q; cases q⟩
  ·exact ⟨_, e2, fun v q => by rw [d2] at q; cases q⟩
 keep := fun i h h' st k => by
  obtain ⟨hz, hTI, ⟨a, c, hTO⟩, h1, h2⟩ := st
  exact ⟨k z (by simp) _ hz, k TI (by simp) _ hTI, ⟨a, c, k TO (by simp) _ hTO⟩, h1.at fun o e => k i1 (by simp) o e, h2.at fun o e => k i2 (by simp) o e⟩
 item := by
  intro X hP hw hK hc i pins s σ H E I hf st hg
  subst hP hw hK
  obtain ⟨xs, ys, x, y, hq1, hq2, hx, hy⟩ := hg
  obtain ⟨its1, rv1, p1, _⟩ := I.list hq1
  obtain ⟨its2, rv2, p2, _⟩ := I.list hq2
  obtain ⟨u, hu, ru⟩ := rv1.get hx
  obtain ⟨v, hv, rw'⟩ := rv2.get hy
  obtain ⟨hz, hTI, ⟨a, b, hTO⟩, h1, h2⟩ := st
  have Z := zip2_apart D hz hTO h1 h2 p1.isList p2.isList
  refine wpAny_pyNext_zip_item Z hz hTI hTO h1 h2 p1.isList p2.isList (x := u) (y := v) (by simpa using hu) (by simpa using hv) fun h' a1 a2 a3 a4 a5 a6 hk => ?_
  refine ⟨_, rfl, ?_⟩
  refine wpAny_letOwnedTupleGo_zip a1 fun h'' hz'' hs'' => ?_
  have hzs : z < s.heap.objs.size := Heap.lt_size hz
  have kk : ∀ c o, c ∉ [z, TI, TO, i1, i2] -> s.heap.get? c = some o -> h''.get? c = some o := fun c o hc e => by
   simp only [mem_cons, not_mem_nil, or_false, not_or] at hc
   exact hs''.extBut _ _ hc.1 (hk c o hc.1 hc.2.2.1 hc.2.2.2.1 hc.2.2.2.2 e)
  have hT : h''.get? s.heap.objs.size = some { cls := .type "tuple", data := .seq #[u, v] } := hs''.extBut _ _ (Nat.ne_of_gt hzs) a5
  have I2 : Inv X pins σ (upd H s.heap.objs.size (.tup [x, y])) { s with heap := h'', toks := s.toks } :=
   I.turnedN (T := s.heap.objs.size) (o := .tup [x, y]) kk hf (Nat.le_refl _) ⟨by show 2 <= sizeLine; decide, [u, v], .cons ru (.cons rw' .nil), ⟨_, hT, rfl, _, rfl⟩⟩
  refine ⟨.ref s.heap.objs.size, _, I2, rfl, ⟨_, x, y, rfl, I.fresh, rfl, fun zs hzs' => by rw [I.list_inj hzs' hq1]; exact hx, fun zs hzs' => by rw [I.list_inj hzs' hq2]; exact hy⟩,
   ⟨hz'', hs''.extBut _ _ D.TIz (hk _ _ D.TIz D.TITO D.TIi1 D.TIi2 hTI), ⟨_, _, hs''.extBut _ _ D.TOz a2⟩, a3.extBut hs''.extBut D.i1z, a4.extBut hs''.extBut D.i2z⟩, fun c hc' => ?_⟩
  have hlt : c < s.heap.objs.size := by
   obtain ⟨o1, e1, _⟩ := h1
   obtain ⟨o2, e2, _⟩ := h2
   simp only [mem_cons, not_mem_nil, or_false] at hc'
   rcases hc' with rfl | rfl | rfl | rfl | rfl
   ·exact hzs
   ·exact Heap.lt_size hTI
   ·exact Heap.lt_size hTO
   ·exact Heap.lt_size e1
   ·exact Heap.lt_size e2
  rw [upd_ne (Nat.ne_of_lt hlt)]
  exact (hf c hc').1
 done := by
  intro X hP hw hK hc i pins s σ H E I hf st hg
  subst hP hw hK
  obtain ⟨xs, ys, hq1, hq2, hl⟩ := hg
  obtain ⟨its1, rv1, p1, _⟩ := I.list hq1
  obtain ⟨its2, rv2, p2, _⟩ := I.list hq2
  obtain ⟨hz, hTI, ⟨a, b, hTO⟩, h1, h2⟩ := st
  have Z := zip2_apart D hz hTO h1 h2 p1.isList p2.isList
  have l1' := rv1.length
  have l2' := rv2.length
  refine wpAny_pyNext_zip_end (I.ok.hd hc) Z hz hTI hTO h1 h2 p1.isList p2.isList (hl.elim (fun q => .inl (by simp; omega)) fun q => .inr (by simp; omega)) fun h' hk => ⟨rfl, ?_⟩
  exact I.turnedL (t' := s.toks) (fun c o hc e => by
   simp only [mem_cons, not_mem_nil, or_false, not_or] at hc
   exact hk c o hc.1 hc.2.2.1 hc.2.2.2.1 hc.2.2.2.2 e) hf
 self := fun _ _ _ _ _ st h => wpAny_pyIter_zip st.1 h
section
variable {X : Cx}
def iZip2 (K : W.Frag) (ta : TA) : TI := fun σ H R => ta σ H fun vs H1 => ∃ a b xs ys, vs = [.ref a, .ref b] /\ SqL K H1 a xs /\ SqL K H1 b ys /\ R (Itz2 K a b) H1
theorem pi_zip2 {a b : Expr} {ta : TA} {p pos : Pos} {es : List Expr} {tk : Nat} {tp : Pos} (hg : Gl X "zip") (hm : X.mg "zip" = none) (ha : PA X [a, b] ta) (hs : starEach [a, b] X.env = [(false, eval a X.env), (false, eval b X.env)] := by rfl) (hs2 : starEach [b] X.env = [(false, eval b X.env)] := by rfl) :
  PI X (.Tuple es tk tp) (.Call (.Name "zip" p) [a, b] [] pos) (iZip2 X.K ta) := by
 intro pins s σ H R I h
 refine Call_ (ld_blt I hg hm boot_zip (PyProof.Rows.callWith_type1 (thn (ha pos pins s σ H _ I h) fun us s1 hpat => ?_) (by rw [hs, hs2]) (by rw [hs2]; rfl)))
 obtain ⟨vs, H1, I1, r1, q1⟩ := hpat
 obtain ⟨l1, l2, xs, ys, e, q1, q2, q⟩ := q1
 subst e
 cases r1 with
 | cons r rr =>
  cases rr with
  | cons r' rr =>
   cases rr
   cases r
   cases r'
   obtain ⟨its1, rv1, p1, _⟩ := I1.list q1
   obtain ⟨its2, rv2, p2, _⟩ := I1.list q2
   refine call_zip_2 p1.isList p2.isList fun h' hz hTI hTO hi1 hi2 hsz hk => ?_
   have I2 : Inv X pins σ H1 { s1 with heap := h', toks := s1.toks } := I1.kept hk
   refine wpAny_pyIter_zip (s := { s1 with heap := h' }) hz ?_
   refine ⟨_, [s1.heap.objs.size + 4, s1.heap.objs.size + 2, s1.heap.objs.size + 3, s1.heap.objs.size, s1.heap.objs.size + 1], _, _, H1, rfl, I2, turn_zip2 _ _ _ _ _ l1 l2 (zip2_new _),
    ⟨hz, hTI, ⟨_, _, hTO⟩, hi1, hi2⟩, fun b hb => ?_, q⟩
   have hb' : s1.heap.objs.size <= b := by
    simp only [mem_cons, not_mem_nil, or_false] at hb
    rcases hb with rfl | rfl | rfl | rfl | rfl
    ·exact Nat.le_add_right _ 4
    ·exact Nat.le_add_right _ 2
    ·exact Nat.le_add_right _ 3
    ·exact Nat.le_refl _
    ·exact Nat.le_add_right _ 1
   exact I1.fpOk hb' (I1.hok.fresh hb')
end
end
section
abbrev IsTrip (h : Heap) (T : Addr) (a b c : Value) : Prop := h.get? T = some { cls := .type "tuple", data := .seq #[a, b, c] }
structure Zip3 (z TI TO i1 i2 i3 : Addr) : Prop where
 TIz : TI ≠ z
 TOz : TO ≠ z
 i1z : i1 ≠ z
 i2z : i2 ≠ z
 i3z : i3 ≠ z
 TITO : TI ≠ TO
 TIi1 : TI ≠ i1
 TIi2 : TI ≠ i2
 TIi3 : TI ≠ i3
 TOi1 : TO ≠ i1
 TOi2 : TO ≠ i2
 TOi3 : TO ≠ i3
 i12 : i1 ≠ i2
 i13 : i1 ≠ i3
 i23 : i2 ≠ i3
theorem zip3_new (n : Nat) : Zip3 (n + 5) (n + 3) (n + 4) n (n + 1) (n + 2) := by
 constructor <;> (show ((_ : Nat) ≠ _); omega)
structure Apart3 (z TO i1 i2 i3 l : Addr) : Prop where
 lz : l ≠ z
 lTO : l ≠ TO
 l1 : l ≠ i1
 l2 : l ≠ i2
 l3 : l ≠ i3
section
variable {prog : Program} {w : World} {A : Around} {E : Value -> Shared -> Prop} {s : Shared}
theorem updateSeq_trip {T : Addr} {a b c x : Value} {k : Nat} {Q : Unit -> Shared -> Prop} (hT : IsTrip s.heap T a b c)
  (h : ∀ h', h'.get? T = some { cls := .type "tuple", data := .seq ((#[a, b, c] : Array Value).setIfInBounds k x) } -> Heap.SameBut T s.heap h' -> Q () { s with heap := h' }) :
  wpAny (model prog w) A (updateSeq T (·.setIfInBounds k x)) Q E s := by
 refine wpAny_updateSeq hT rfl (h _ ?_ (Heap.SameBut.update ..))
 rw [Heap.get?_update_self _ hT rfl]
 simp [Obj.mapSeq]
theorem zip3_next_item {z TI TO i1 i2 i3 l1 l2 l3 : Addr} {k1 k2 k3 : Nat} {xs ys zs : Array Value} {x y v a b c : Value} {Q : Value -> Shared -> Prop} (D : Zip3 z TI TO i1 i2 i3) (A1 : Apart3 z TO i1 i2 i3 l1) (A2 : Apart3 z TO i1 i2 i3 l2) (A3 : Apart3 z TO i1 i2 i3 l3)
  (hz : IsZip s.heap z TI TO .none) (hTI : IsTrip s.heap TI (.ref i1) (.ref i2) (.ref i3)) (hTO : IsTrip s.heap TO a b c)
  (h1 : s.heap.IsListIter i1 l1 k1) (h2 : s.heap.IsListIter i2 l2 k2) (h3 : s.heap.IsListIter i3 l3 k3) (hl1 : s.heap.IsList l1 xs) (hl2 : s.heap.IsList l2 ys) (hl3 : s.heap.IsList l3 zs) (hx : xs[k1]? = some x) (hy : ys[k2]? = some y) (hv : zs[k3]? = some v)
  (hQ : ∀ h', IsZip h' z TI TO (rawInt s.heap.objs.size) -> IsTrip h' TO x y v -> h'.IsListIter i1 l1 (k1 + 1) -> h'.IsListIter i2 l2 (k2 + 1) -> h'.IsListIter i3 l3 (k3 + 1) -> IsTrip h' s.heap.objs.size x y v -> h'.objs.size = s.heap.objs.size + 1 ->
   (∀ c o, c ≠ z -> c ≠ TO -> c ≠ i1 -> c ≠ i2 -> c ≠ i3 -> s.heap.get? c = some o -> h'.get? c = some o) -> Q (.ref s.heap.objs.size) { s with heap := h' }) :
  wpAny (model prog w) A (Builtin.«zip.__next__» ⟨[.ref z], []⟩) (fun fin s' => ∃ v, fin = .done (.ret v) /\ Q v s') E s := by
 show wpAny _ _ (field (.ref z) 2 >>= _) _ _ _
 refine wpAny_bind (wpAny_field hz rfl (x := .bool false) rfl ?_)
 show wpAny _ _ (field (.ref z) 3 >>= _) _ _ _
 refine wpAny_bind (wpAny_field hz rfl (x := .ref TI) rfl ?_)
 refine wpAny_bind (wpAny_seqItems hTI rfl ?_)
 show wpAny _ _ (Builtin.SmallTypes.ownedTupleIsFree (.ref z) >>= _) _ _ _
 refine wpAny_bind ?_
 unfold Builtin.SmallTypes.ownedTupleIsFree
 refine wpAny_bind (wpAny_field hz rfl (x := .none) rfl (wpAny_pure ?_))
 simp only [if_true]
 refine wpAny_bind (wpAny_rule ?_)
 refine wpAny_bind (wpAny_field hz rfl (x := .ref TO) rfl ?_)
 refine wpAny_bind (wpAny_setField_rec hz (by simp) fun h₁ hz₁ hs₁ => ?_)
 replace hz₁ : IsZip h₁ z TI TO .ellipsis := hz₁
 refine wpAny_bind ?_
 simp only [zipIdx_cons, zipIdx_nil, forIn_cons, forIn_nil]
 refine wpAny_bind (wpAny_bind (wpAny_onRaise ?_))
 show wpAny _ _ (Builtin.SmallTypes.nextOf (.ref i1) >>= _) _ _ _
 refine wpAny_bind (wpAny_nextOf_list_item (h1.extBut hs₁.extBut D.i1z) (hl1.extBut hs₁.extBut A1.lz) hx fun h₂ h1₂ hs₂ => wpAny_pure ?_)
 have hTO₂ : IsTrip h₂ TO a b c := hs₂.extBut _ _ D.TOi1 (hs₁.extBut _ _ D.TOz hTO)
 refine wpAny_bind (wpAny_seqItems hTO₂ rfl ?_)
 refine wpAny_bind (updateSeq_trip hTO₂ fun h₃ hTO₃ hs₃ => ?_)
 replace hTO₃ : IsTrip h₃ TO x b c := hTO₃
 refine wpAny_bind (wpAny_letGo (wpAny_pure ?_))
 refine wpAny_bind (wpAny_bind (wpAny_onRaise ?_))
 show wpAny _ _ (Builtin.SmallTypes.nextOf (.ref i2) >>= _) _ _ _
 refine wpAny_bind (wpAny_nextOf_list_item (((h2.extBut hs₁.extBut D.i2z).extBut hs₂.extBut D.i12.symm).extBut hs₃.extBut D.TOi2.symm)
  (((hl2.extBut hs₁.extBut A2.lz).extBut hs₂.extBut A2.l1).extBut hs₃.extBut A2.lTO) hy fun h₄ h2₄ hs₄ => wpAny_pure ?_)
 have hTO₄ : IsTrip h₄ TO x b c := hs₄.extBut _ _ D.TOi2 hTO₃
 refine wpAny_bind (wpAny_seqItems hTO₄ rfl ?_)
 refine wpAny_bind (updateSeq_trip hTO₄ fun h₅ hTO₅ hs₅ => ?_)
 replace hTO₅ : IsTrip h₅ TO x y c := hTO₅
 refine wpAny_bind (wpAny_letGo (wpAny_pure ?_))
 refine wpAny_bind (wpAny_bind (wpAny_onRaise ?_))
 show wpAny _ _ (Builtin.SmallTypes.nextOf (.ref i3) >>= _) _ _ _
 refine wpAny_bind (wpAny_nextOf_list_item (((((h3.extBut hs₁.extBut D.i3z).extBut hs₂.extBut D.i13.symm).extBut hs₃.extBut D.TOi3.symm).extBut hs₄.extBut D.i23.symm).extBut hs₅.extBut D.TOi3.symm)
  (((((hl3.extBut hs₁.extBut A3.lz).extBut hs₂.extBut A3.l1).extBut hs₃.extBut A3.lTO).extBut hs₄.extBut A3.l2).extBut hs₅.extBut A3.lTO) hv fun h₆ h3₆ hs₆ => wpAny_pure ?_)
 have hTO₆ : IsTrip h₆ TO x y c := hs₆.extBut _ _ D.TOi3 hTO₅
 refine wpAny_bind (wpAny_seqItems hTO₆ rfl ?_)
 refine wpAny_bind (updateSeq_trip hTO₆ fun h₇ hTO₇ hs₇ => ?_)
 replace hTO₇ : IsTrip h₇ TO x y v := hTO₇
 refine wpAny_bind (wpAny_letGo (wpAny_pure (wpAny_pure ?_)))
 refine wpAny_bind (wpAny_seqItems hTO₇ rfl ?_)
 refine wpAny_bind (wpAny_newTuple ?_)
 have hsz : h₇.objs.size = s.heap.objs.size := by rw [hs₇.1, hs₆.1, hs₅.1, hs₄.1, hs₃.1, hs₂.1, hs₁.1]
 have hz₇ : IsZip h₇ z TI TO .ellipsis := hs₇.extBut _ _ D.TOz.symm (hs₆.extBut _ _ D.i3z.symm (hs₅.extBut _ _ D.TOz.symm (hs₄.extBut _ _ D.i2z.symm (hs₃.extBut _ _ D.TOz.symm (hs₂.extBut _ _ D.i1z.symm hz₁)))))
 have hk₇ : ∀ c o, c ≠ z -> c ≠ TO -> c ≠ i1 -> c ≠ i2 -> c ≠ i3 -> s.heap.get? c = some o -> h₇.get? c = some o := fun c o c1 c2 c3 c4 c5 e =>
  hs₇.extBut _ _ c2 (hs₆.extBut _ _ c5 (hs₅.extBut _ _ c2 (hs₄.extBut _ _ c4 (hs₃.extBut _ _ c2 (hs₂.extBut _ _ c3 (hs₁.extBut _ _ c1 e))))))
 have h1₇ : h₇.IsListIter i1 l1 (k1 + 1) := ((((h1₂.extBut hs₃.extBut D.TOi1.symm).extBut hs₄.extBut D.i12).extBut hs₅.extBut D.TOi1.symm).extBut hs₆.extBut D.i13).extBut hs₇.extBut D.TOi1.symm
 have h2₇ : h₇.IsListIter i2 l2 (k2 + 1) := ((h2₄.extBut hs₅.extBut D.TOi2.symm).extBut hs₆.extBut D.i23).extBut hs₇.extBut D.TOi2.symm
 have h3₇ : h₇.IsListIter i3 l3 (k3 + 1) := h3₆.extBut hs₇.extBut D.TOi3.symm
 have hzlt : z < h₇.objs.size := Heap.lt_size hz₇
 show wpAny _ _ (Builtin.SmallTypes.ownedTupleHandOut (.ref z) (.ref h₇.objs.size) >>= _) _ _ _
 refine wpAny_bind ?_
 unfold Builtin.SmallTypes.ownedTupleHandOut
 have hz₈ : IsZip (h₇.push { cls := .type "tuple", data := .seq #[x, y, v] }) z TI TO .ellipsis := Heap.get?_push_of_some _ hz₇
 refine wpAny_bind (wpAny_setField_rec hz₈ (by simp) fun h₉ hz₉ hs₉ => ?_)
 replace hz₉ : IsZip h₉ z TI TO (rawInt h₇.objs.size) := hz₉
 refine wpAny_setField_rec hz₉ (by simp) fun h₀ hz₀ hs₀ => ?_
 replace hz₀ : IsZip h₀ z TI TO (rawInt h₇.objs.size) := hz₀
 have up : ∀ c o, c ≠ z -> h₇.get? c = some o -> h₀.get? c = some o := fun c o c1 e => hs₀.extBut _ _ c1 (hs₉.extBut _ _ c1 (Heap.get?_push_of_some _ e))
 have hT₀ : IsTrip h₀ h₇.objs.size x y v := hs₀.extBut _ _ (Nat.ne_of_gt hzlt) (hs₉.extBut _ _ (Nat.ne_of_gt hzlt) (Heap.get?_push_size _ rfl))
 have hz0 : h₀.objs.size = h₇.objs.size + 1 := by rw [hs₀.1, hs₉.1, Heap.size_push]
 rw [hsz] at hz₀ hT₀ hz0
 refine wpAny_pure ⟨_, rfl, ?_⟩
 show Q (.ref h₇.objs.size) _
 rw [hsz]
 exact hQ h₀ hz₀ (up _ _ D.TOz hTO₇) (h1₇.at fun o e => up _ o D.i1z e) (h2₇.at fun o e => up _ o D.i2z e) (h3₇.at fun o e => up _ o D.i3z e) hT₀ hz0 fun c o c1 c2 c3 c4 c5 e => up c o c1 (hk₇ c o c1 c2 c3 c4 c5 e)
theorem zip3_next_end {z TI TO i1 i2 i3 l1 l2 l3 : Addr} {k1 k2 k3 : Nat} {xs ys zs : Array Value} {a b c : Value} {Q : Fin -> Shared -> Prop} (hh : A.handled = none) (D : Zip3 z TI TO i1 i2 i3) (A1 : Apart3 z TO i1 i2 i3 l1) (A2 : Apart3 z TO i1 i2 i3 l2) (A3 : Apart3 z TO i1 i2 i3 l3)
  (hz : IsZip s.heap z TI TO .none) (hTI : IsTrip s.heap TI (.ref i1) (.ref i2) (.ref i3)) (hTO : IsTrip s.heap TO a b c)
  (h1 : s.heap.IsListIter i1 l1 k1) (h2 : s.heap.IsListIter i2 l2 k2) (h3 : s.heap.IsListIter i3 l3 k3) (hl1 : s.heap.IsList l1 xs) (hl2 : s.heap.IsList l2 ys) (hl3 : s.heap.IsList l3 zs) (hend : xs[k1]? = none \/ ys[k2]? = none \/ zs[k3]? = none)
  (hE : ∀ h' e, (∀ c o, c ≠ z -> c ≠ TO -> c ≠ i1 -> c ≠ i2 -> c ≠ i3 -> s.heap.get? c = some o -> h'.get? c = some o) -> (∃ o, h'.get? e = some o /\ o.cls = .type "StopIteration") -> E (.ref e) { s with heap := h' }) :
  wpAny (model prog w) A (Builtin.«zip.__next__» ⟨[.ref z], []⟩) Q E s := by
 show wpAny _ _ (field (.ref z) 2 >>= _) _ _ _
 refine wpAny_bind (wpAny_field hz rfl (x := .bool false) rfl ?_)
 show wpAny _ _ (field (.ref z) 3 >>= _) _ _ _
 refine wpAny_bind (wpAny_field hz rfl (x := .ref TI) rfl ?_)
 refine wpAny_bind (wpAny_seqItems hTI rfl ?_)
 show wpAny _ _ (Builtin.SmallTypes.ownedTupleIsFree (.ref z) >>= _) _ _ _
 refine wpAny_bind ?_
 unfold Builtin.SmallTypes.ownedTupleIsFree
 refine wpAny_bind (wpAny_field hz rfl (x := .none) rfl (wpAny_pure ?_))
 simp only [if_true]
 refine wpAny_bind (wpAny_rule ?_)
 refine wpAny_bind (wpAny_field hz rfl (x := .ref TO) rfl ?_)
 refine wpAny_bind (wpAny_setField_rec hz (by simp) fun h₁ hz₁ hs₁ => ?_)
 replace hz₁ : IsZip h₁ z TI TO .ellipsis := hz₁
 refine wpAny_bind ?_
 simp only [zipIdx_cons, zipIdx_nil, forIn_cons, forIn_nil]
 refine wpAny_bind (wpAny_bind (wpAny_onRaise ?_))
 show wpAny _ _ (Builtin.SmallTypes.nextOf (.ref i1) >>= _) _ _ _
 cases hx : xs[k1]? with
 | none =>
  refine wpAny_bind (wpAny_nextOf_list_end hh (h1.extBut hs₁.extBut D.i1z) (hl1.extBut hs₁.extBut A1.lz) hx fun h₂ e hs₂ he => ?_)
  obtain ⟨oe, hoe, hce⟩ := he
  have hz₂ : IsZip h₂ z TI TO .ellipsis := hs₂ _ _ D.i1z.symm hz₁
  have hez : e ≠ z := fun x => by subst x; rw [hz₂] at hoe; cases hoe; simp at hce
  refine wpAny_setField_rec hz₂ (by simp) fun h₃ _ hs₃ => hE h₃ e (fun c o c1 _ c3 _ _ x => hs₃.extBut _ _ c1 (hs₂ _ _ c3 (hs₁.extBut _ _ c1 x))) ⟨oe, hs₃.extBut _ _ hez hoe, hce⟩
 | some x =>
  refine wpAny_bind (wpAny_nextOf_list_item (h1.extBut hs₁.extBut D.i1z) (hl1.extBut hs₁.extBut A1.lz) hx fun h₂ h1₂ hs₂ => wpAny_pure ?_)
  have hTO₂ : IsTrip h₂ TO a b c := hs₂.extBut _ _ D.TOi1 (hs₁.extBut _ _ D.TOz hTO)
  refine wpAny_bind (wpAny_seqItems hTO₂ rfl ?_)
  refine wpAny_bind (updateSeq_trip hTO₂ fun h₃ hTO₃ hs₃ => ?_)
  replace hTO₃ : IsTrip h₃ TO x b c := hTO₃
  refine wpAny_bind (wpAny_letGo (wpAny_pure ?_))
  refine wpAny_bind (wpAny_bind (wpAny_onRaise ?_))
  show wpAny _ _ (Builtin.SmallTypes.nextOf (.ref i2) >>= _) _ _ _
  cases hy : ys[k2]? with
  | none =>
   refine wpAny_bind (wpAny_nextOf_list_end hh (((h2.extBut hs₁.extBut D.i2z).extBut hs₂.extBut D.i12.symm).extBut hs₃.extBut D.TOi2.symm)
    (((hl2.extBut hs₁.extBut A2.lz).extBut hs₂.extBut A2.l1).extBut hs₃.extBut A2.lTO) hy fun h₄ e hs₄ he => ?_)
   obtain ⟨oe, hoe, hce⟩ := he
   have hz₄ : IsZip h₄ z TI TO .ellipsis := hs₄ _ _ D.i2z.symm (hs₃.extBut _ _ D.TOz.symm (hs₂.extBut _ _ D.i1z.symm hz₁))
   have hez : e ≠ z := fun x => by subst x; rw [hz₄] at hoe; cases hoe; simp at hce
   refine wpAny_setField_rec hz₄ (by simp) fun h₅ _ hs₅ => hE h₅ e (fun c o c1 c2 c3 c4 _ x => hs₅.extBut _ _ c1 (hs₄ _ _ c4 (hs₃.extBut _ _ c2 (hs₂.extBut _ _ c3 (hs₁.extBut _ _ c1 x))))) ⟨oe, hs₅.extBut _ _ hez hoe, hce⟩
  | some y =>
   have hv : zs[k3]? = none := by
    rcases hend with h | h | h
    ·rw [hx] at h; cases h
    ·rw [hy] at h; cases h
    ·exact h
   refine wpAny_bind (wpAny_nextOf_list_item (((h2.extBut hs₁.extBut D.i2z).extBut hs₂.extBut D.i12.symm).extBut hs₃.extBut D.TOi2.symm)
    (((hl2.extBut hs₁.extBut A2.lz).extBut hs₂.extBut A2.l1).extBut hs₃.extBut A2.lTO) hy fun h₄ h2₄ hs₄ => wpAny_pure ?_)
   have hTO₄ : IsTrip h₄ TO x b c := hs₄.extBut _ _ D.TOi2 hTO₃
   refine wpAny_bind (wpAny_seqItems hTO₄ rfl ?_)
   refine wpAny_bind (updateSeq_trip hTO₄ fun h₅ hTO₅ hs₅ => ?_)
   replace hTO₅ : IsTrip h₅ TO x y c := hTO₅
   refine wpAny_bind (wpAny_letGo (wpAny_pure ?_))
   refine wpAny_bind (wpAny_bind (wpAny_onRaise ?_))
   show wpAny _ _ (Builtin.SmallTypes.nextOf (.ref i3) >>= _) _ _ _
   refine wpAny_bind (wpAny_nextOf_list_end hh (((((h3.extBut hs₁.extBut D.i3z).extBut hs₂.extBut D.i13.symm).extBut hs₃.extBut D.TOi3.symm).extBut hs₄.extBut D.i23.symm).extBut hs₅.extBut D.TOi3.symm)
    (((((hl3.extBut hs₁.extBut A3.lz).extBut hs₂.extBut A3.l1).extBut hs₃.extBut A3.lTO).extBut hs₄.extBut A3.l2).extBut hs₅.extBut A3.lTO) hv fun h₆ e hs₆ he => ?_)
   obtain ⟨oe, hoe, hce⟩ := he
   have hz₆ : IsZip h₆ z TI TO .ellipsis := hs₆ _ _ D.i3z.symm (hs₅.extBut _ _ D.TOz.symm (hs₄.extBut _ _ D.i2z.symm (hs₃.extBut _ _ D.TOz.symm (hs₂.extBut _ _ D.i1z.symm hz₁))))
   have hez : e ≠ z := fun x => by subst x; rw [hz₆] at hoe; cases hoe; simp at hce
   refine wpAny_setField_rec hz₆ (by simp) fun h₇ _ hs₇ => hE h₇ e (fun c o c1 c2 c3 c4 c5 x => hs₇.extBut _ _ c1 (hs₆ _ _ c5 (hs₅.extBut _ _ c2 (hs₄.extBut _ _ c4 (hs₃.extBut _ _ c2 (hs₂.extBut _ _ c3 (hs₁.extBut _ _ c1 x))))))) ⟨oe, hs₇.extBut _ _ hez hoe, hce⟩
theorem pyNext_zip3_item {z TI TO i1 i2 i3 l1 l2 l3 : Addr} {k1 k2 k3 : Nat} {xs ys zs : Array Value} {x y v a b c : Value} {Q : Option Value -> Shared -> Prop} (D : Zip3 z TI TO i1 i2 i3) (A1 : Apart3 z TO i1 i2 i3 l1) (A2 : Apart3 z TO i1 i2 i3 l2) (A3 : Apart3 z TO i1 i2 i3 l3)
  (hz : IsZip s.heap z TI TO .none) (hTI : IsTrip s.heap TI (.ref i1) (.ref i2) (.ref i3)) (hTO : IsTrip s.heap TO a b c)
  (h1 : s.heap.IsListIter i1 l1 k1) (h2 : s.heap.IsListIter i2 l2 k2) (h3 : s.heap.IsListIter i3 l3 k3) (hl1 : s.heap.IsList l1 xs) (hl2 : s.heap.IsList l2 ys) (hl3 : s.heap.IsList l3 zs) (hx : xs[k1]? = some x) (hy : ys[k2]? = some y) (hv : zs[k3]? = some v)
  (hQ : ∀ h', IsZip h' z TI TO (rawInt s.heap.objs.size) -> IsTrip h' TO x y v -> h'.IsListIter i1 l1 (k1 + 1) -> h'.IsListIter i2 l2 (k2 + 1) -> h'.IsListIter i3 l3 (k3 + 1) -> IsTrip h' s.heap.objs.size x y v -> h'.objs.size = s.heap.objs.size + 1 ->
   (∀ c o, c ≠ z -> c ≠ TO -> c ≠ i1 -> c ≠ i2 -> c ≠ i3 -> s.heap.get? c = some o -> h'.get? c = some o) -> Q (some (.ref s.heap.objs.size)) { s with heap := h' }) :
  wpAny (model prog w) A (pyNext (.ref z)) Q E s := by
 have hT : s.TypeIs (.ref z) "zip" := ⟨_, hz, rfl⟩
 unfold pyNext
 exact wpAny_bind (wpAny_attempt (wpAny_callSpecial?_slot (name := Str.ofString "__next__") hT F.slot_zip_next
  (wpAny_call_entry F.slot_zip_next hT F.entry_zip_next
   (zip3_next_item D A1 A2 A3 hz hTI hTO h1 h2 h3 hl1 hl2 hl3 hx hy hv fun h' a1 a2 a3 a4 a5 a6 a7 a8 => wpAny_pure (hQ h' a1 a2 a3 a4 a5 a6 a7 a8)) (F.args_zip_next_1 _))))
theorem pyNext_zip3_end {z TI TO i1 i2 i3 l1 l2 l3 : Addr} {k1 k2 k3 : Nat} {xs ys zs : Array Value} {a b c : Value} {Q : Option Value -> Shared -> Prop} (hh : A.handled = none) (D : Zip3 z TI TO i1 i2 i3) (A1 : Apart3 z TO i1 i2 i3 l1) (A2 : Apart3 z TO i1 i2 i3 l2) (A3 : Apart3 z TO i1 i2 i3 l3)
  (hz : IsZip s.heap z TI TO .none) (hTI : IsTrip s.heap TI (.ref i1) (.ref i2) (.ref i3)) (hTO : IsTrip s.heap TO a b c)
  (h1 : s.heap.IsListIter i1 l1 k1) (h2 : s.heap.IsListIter i2 l2 k2) (h3 : s.heap.IsListIter i3 l3 k3) (hl1 : s.heap.IsList l1 xs) (hl2 : s.heap.IsList l2 ys) (hl3 : s.heap.IsList l3 zs) (hend : xs[k1]? = none \/ ys[k2]? = none \/ zs[k3]? = none)
  (hQ : ∀ h', (∀ c o, c ≠ z -> c ≠ TO -> c ≠ i1 -> c ≠ i2 -> c ≠ i3 -> s.heap.get? c = some o -> h'.get? c = some o) -> Q none { s with heap := h' }) : wpAny (model prog w) A (pyNext (.ref z)) Q E s := by
 have hT : s.TypeIs (.ref z) "zip" := ⟨_, hz, rfl⟩
 unfold pyNext
 refine wpAny_bind (wpAny_attempt (wpAny_callSpecial?_slot (name := Str.ofString "__next__") hT F.slot_zip_next
  (wpAny_call_entry F.slot_zip_next hT F.entry_zip_next (zip3_next_end hh D A1 A2 A3 hz hTI hTO h1 h2 h3 hl1 hl2 hl3 hend fun h' e hk he => ?_) (F.args_zip_next_1 _))))
 obtain ⟨o, ho, hc⟩ := he
 refine wpAny_bind (wpAny_isInstance (T := "StopIteration") (b := true) ⟨o, ho, hc⟩ isSubtype_stop ?_)
 exact wpAny_pure (hQ _ hk)
abbrev z3H1 (h : Heap) (l1 : Addr) : Heap := h.push { cls := .type "list_iterator", data := .fields #[.ref l1, .int 0 0] }
abbrev z3H2 (h : Heap) (l1 l2 : Addr) : Heap := (z3H1 h l1).push { cls := .type "list_iterator", data := .fields #[.ref l2, .int 0 0] }
abbrev z3H3 (h : Heap) (l1 l2 l3 : Addr) : Heap := (z3H2 h l1 l2).push { cls := .type "list_iterator", data := .fields #[.ref l3, .int 0 0] }
abbrev z3H4 (h : Heap) (l1 l2 l3 : Addr) : Heap := (z3H3 h l1 l2 l3).push { cls := .type "tuple", data := .seq #[.ref h.objs.size, .ref (z3H1 h l1).objs.size, .ref (z3H2 h l1 l2).objs.size] }
abbrev z3H5 (h : Heap) (l1 l2 l3 : Addr) : Heap := (z3H4 h l1 l2 l3).push { cls := .type "tuple", data := .seq #[.none, .none, .none] }
abbrev z3H6 (h : Heap) (l1 l2 l3 : Addr) : Heap := (z3H5 h l1 l2 l3).push { cls := .type "zip", data := .fields #[.none, .bool false, .bool false, .ref (z3H3 h l1 l2 l3).objs.size, .ref (z3H4 h l1 l2 l3).objs.size] }
theorem typeCall_zip_3 (a b c : Value) : checkTypeCall "zip" ⟨[a, b, c], []⟩ = pure () := by kernel_rfl
theorem newCall_zip_3 (a b c : Value) : checkBuiltinCall "zip.__new__" ⟨[.type "zip", a, b, c], []⟩ = pure () := by kernel_rfl
theorem args_init_4 (a b c d : Value) : argsOk "object.__init__" ⟨[a, b, c, d], []⟩ := by
 unfold argsOk; rw [signature?_of (id := "object.__init__") (n := ['_', '_', 't', 'i', 'n', 'i', '_', '_']) (o := ['t', 'c', 'e', 'j', 'b', 'o']) (by kernel_rfl) F.owner_object]; kernel_rfl
set_option maxHeartbeats 8000000 in
theorem meets_zip3_new (l1 l2 l3 : Addr) (xs ys zs : Array Value) :
  Meets (Builtin.«zip.__new__» ⟨[.type "zip", .ref l1, .ref l2, .ref l3], []⟩) (fun _ R s => s.heap.IsList l1 xs /\ s.heap.IsList l2 ys /\ s.heap.IsList l3 zs /\
   R (.ok (.ret (.ref (z3H5 s.heap l1 l2 l3).objs.size))) { s with heap := z3H6 s.heap l1 l2 l3 }) :=
 .of_wp fun prog w A R s h => by
  obtain ⟨hp, g, d, tk, os⟩ := s; obtain ⟨hl1, hl2, hl3, h⟩ := h
  have hsub := sub_zip
  have hL1 : Heap.IsList (Shared.heap ⟨hp, g, d, tk, os⟩) l1 xs := hl1
  have hL2 : Heap.IsList (Shared.heap ⟨hp.push { cls := .type "list_iterator", data := .fields #[.ref l1, .int 0 0] }, g, d, tk, os⟩) l2 ys := Heap.IsList.push hl2 _
  have hL3 : Heap.IsList (Shared.heap ⟨(hp.push { cls := .type "list_iterator", data := .fields #[.ref l1, .int 0 0] }).push { cls := .type "list_iterator", data := .fields #[.ref l2, .int 0 0] }, g, d, tk, os⟩) l3 zs := Heap.IsList.push (Heap.IsList.push hl3 _) _
  wp_walk using wpAny_pyIter_list hL1, wpAny_pyIter_list hL2, wpAny_pyIter_list hL3
  exact ⟨_, rfl, h⟩
theorem call_zip_3 {l1 l2 l3 : Addr} {xs ys zs : Array Value} {Q : Value -> Shared -> Prop} (hl1 : s.heap.IsList l1 xs) (hl2 : s.heap.IsList l2 ys) (hl3 : s.heap.IsList l3 zs)
  (h : ∀ h', IsZip h' (s.heap.objs.size + 5) (s.heap.objs.size + 3) (s.heap.objs.size + 4) .none -> IsTrip h' (s.heap.objs.size + 3) (.ref s.heap.objs.size) (.ref (s.heap.objs.size + 1)) (.ref (s.heap.objs.size + 2)) ->
   IsTrip h' (s.heap.objs.size + 4) .none .none .none -> h'.IsListIter s.heap.objs.size l1 0 -> h'.IsListIter (s.heap.objs.size + 1) l2 0 -> h'.IsListIter (s.heap.objs.size + 2) l3 0 ->
   (∀ c o, s.heap.get? c = some o -> h'.get? c = some o) -> Q (.ref (s.heap.objs.size + 5)) { s with heap := h' }) :
  wpAny (model prog w) A (call (.type "zip") [.ref l1, .ref l2, .ref l3]) Q E s := by
 refine callType_new F.called_zip (by decide) (typeCall_zip_3 _ _ _) (newCall_zip_3 _ _ _) (fun obj => args_init_4 obj _ _ _) F.entry_zip_new
  (meets_zip3_new l1 l2 l3 xs ys zs) ⟨hl1, hl2, hl3, ?_⟩
 have z1 : (z3H1 s.heap l1).objs.size = s.heap.objs.size + 1 := Heap.size_push ..
 have z2 : (z3H2 s.heap l1 l2).objs.size = s.heap.objs.size + 2 := by rw [Heap.size_push, z1]
 have z3 : (z3H3 s.heap l1 l2 l3).objs.size = s.heap.objs.size + 3 := by rw [Heap.size_push, z2]
 have z4 : (z3H4 s.heap l1 l2 l3).objs.size = s.heap.objs.size + 4 := by rw [Heap.size_push, z3]
 have z5 : (z3H5 s.heap l1 l2 l3).objs.size = s.heap.objs.size + 5 := by rw [Heap.size_push, z4]
 have g6 : (z3H6 s.heap l1 l2 l3).get? (z3H5 s.heap l1 l2 l3).objs.size = some _ := Heap.get?_push_size _ rfl
 have g5 : (z3H6 s.heap l1 l2 l3).get? (z3H4 s.heap l1 l2 l3).objs.size = some _ := Heap.get?_push_of_some _ (Heap.get?_push_size _ rfl)
 have g4 : (z3H6 s.heap l1 l2 l3).get? (z3H3 s.heap l1 l2 l3).objs.size = some _ := Heap.get?_push_of_some _ (Heap.get?_push_of_some _ (Heap.get?_push_size _ rfl))
 have g3 : (z3H6 s.heap l1 l2 l3).get? (z3H2 s.heap l1 l2).objs.size = some _ := Heap.get?_push_of_some _ (Heap.get?_push_of_some _ (Heap.get?_push_of_some _ (Heap.get?_push_size _ rfl)))
 have g2 : (z3H6 s.heap l1 l2 l3).get? (z3H1 s.heap l1).objs.size = some _ := Heap.get?_push_of_some _ (Heap.get?_push_of_some _ (Heap.get?_push_of_some _ (Heap.get?_push_of_some _ (Heap.get?_push_size _ rfl))))
 have g1 : (z3H6 s.heap l1 l2 l3).get? s.heap.objs.size = some _ := Heap.get?_push_of_some _ (Heap.get?_push_of_some _ (Heap.get?_push_of_some _ (Heap.get?_push_of_some _ (Heap.get?_push_of_some _ (Heap.get?_push_size _ rfl)))))
 show _ /\ _
 rw [z3, z4, z5] at g6
 rw [z4] at g5
 rw [z1, z2, z3] at g4
 rw [z2] at g3
 rw [z1] at g2
 rw [z5]
 exact ⟨⟨_, g6, rfl⟩, h _ g6 g4 g5 ⟨_, g1, rfl, rfl⟩ ⟨_, g2, rfl, rfl⟩ ⟨_, g3, rfl, rfl⟩ fun c o x =>
  Heap.get?_push_of_some _ (Heap.get?_push_of_some _ (Heap.get?_push_of_some _ (Heap.get?_push_of_some _ (Heap.get?_push_of_some _ (Heap.get?_push_of_some _ x)))))⟩
end
def Itz3 (K : W.Frag) (l1 l2 l3 : Addr) : It :=
 ⟨fun i H => ∃ xs ys zs x y z, SqL K H l1 xs /\ SqL K H l2 ys /\ SqL K H l3 zs /\ xs[i]? = some x /\ ys[i]? = some y /\ zs[i]? = some z,
  fun i H v H' => ∃ t x y z, v = .ref t /\ H t = none /\ H' = upd H t (.tup [x, y, z]) /\ (∀ xs, SqL K H l1 xs -> xs[i]? = some x) /\ (∀ ys, SqL K H l2 ys -> ys[i]? = some y) /\ (∀ zs, SqL K H l3 zs -> zs[i]? = some z),
  fun i H => ∃ xs ys zs, SqL K H l1 xs /\ SqL K H l2 ys /\ SqL K H l3 zs /\ (xs.length <= i \/ ys.length <= i \/ zs.length <= i)⟩
theorem apart3_of {h : Heap} {z TI TO i1 i2 i3 l m1 m2 m3 : Addr} {its : Array Value} {a b c f0 : Value} {k1 k2 k3 : Nat} (hz : IsZip h z TI TO f0) (hTO : IsTrip h TO a b c) (h1 : h.IsListIter i1 m1 k1) (h2 : h.IsListIter i2 m2 k2) (h3 : h.IsListIter i3 m3 k3)
  (p : h.IsList l its) : Apart3 z TO i1 i2 i3 l := by
 obtain ⟨o1, e1, c1, _⟩ := h1
 obtain ⟨o2, e2, c2, _⟩ := h2
 obtain ⟨o3, e3, c3, _⟩ := h3
 obtain ⟨po, pe, pc, _⟩ := p
 exact ⟨ne_cls pe hz (by rw [pc]; exact list_ne_of (by decide)), ne_cls pe hTO (by rw [pc]; exact list_ne_of (by decide)), ne_cls pe e1 (by rw [pc, c1]; exact list_ne_of (by decide)), ne_cls pe e2 (by rw [pc, c2]; exact list_ne_of (by decide)), ne_cls pe e3 (by rw [pc, c3]; exact list_ne_of (by decide))⟩
theorem turn_zip3 {P : Program} {w : World} {K : W.Frag} {es : List Expr} {tk : Nat} {tp : Pos} (z TI TO i1 i2 i3 l1 l2 l3 : Addr) (D : Zip3 z TI TO i1 i2 i3) :
  Turn P w K (.Tuple es tk tp) (Itz3 K l1 l2 l3) [z, TI, TO, i1, i2, i3] z
   (fun i h => IsZip h z TI TO .none /\ IsTrip h TI (.ref i1) (.ref i2) (.ref i3) /\ (∃ a b c, IsTrip h TO a b c) /\ h.IsListIter i1 l1 i /\ h.IsListIter i2 l2 i /\ h.IsListIter i3 l3 i) where
 mem := by simp
 obj := fun i h st b hb => by
  obtain ⟨hz, hTI, ⟨a, c, d, hTO⟩, ⟨o1, e1, _, d1⟩, ⟨o2, e2, _, d2⟩, ⟨o3, e3, _, d3⟩⟩ := st
  simp only [mem_cons, not_mem_nil, or_false] at hb
  rcases hb with rfl | rfl | rfl | rfl | rfl | rfl
  ·exact ⟨_, hz, fun v q => by cases q⟩
  ·exact ⟨_, hTI, fun v q => by cases q⟩
  ·exact ⟨_, hTO, fun v q => by cases q⟩
  ·exact ⟨_, e1, fun v q => by rw [d1] at q; cases q⟩
  ·exact ⟨_, e2, fun v q => by rw [d2] at q; cases q⟩
  ·exact ⟨_, e3, fun v q => by rw [d3] at q; cases q⟩
 keep := fun i h h' st k => by
  obtain ⟨hz, hTI, ⟨a, c, d, hTO⟩, h1, h2, h3⟩ := st
  exact ⟨k z (by simp) _ hz, k TI (by simp) _ hTI, ⟨a, c, d, k TO (by simp) _ hTO⟩, h1.at fun o e => k i1 (by simp) o e, h2.at fun o e => k i2 (by simp) o e, h3.at fun o e => k i3 (by simp) o e⟩
 item := by
  intro X hP hw hK hc i pins s σ H E I hf st hg
  subst hP hw hK
  obtain ⟨xs, ys, zs, x, y, v, hq1, hq2, hq3, hx, hy, hv⟩ := hg
  obtain ⟨its1, rv1, p1, _⟩ := I.list hq1
  obtain ⟨its2, rv2, p2, _⟩ := I.list hq2
  obtain ⟨its3, rv3, p3, _⟩ := I.list hq3
  obtain ⟨u1, hu1, ru1⟩ := rv1.get hx
  obtain ⟨u2, hu2, ru2⟩ := rv2.get hy
  obtain ⟨u3, hu3, ru3⟩ := rv3.get hv
  obtain ⟨hz, hTI, ⟨a, b, c, hTO⟩, h1, h2, h3⟩ := st
  refine pyNext_zip3_item D (apart3_of hz hTO h1 h2 h3 p1.isList) (apart3_of hz hTO h1 h2 h3 p2.isList) (apart3_of hz hTO h1 h2 h3 p3.isList) hz hTI hTO h1 h2 h3 p1.isList p2.isList p3.isList (x := u1) (y := u2) (v := u3) (by simpa using hu1) (by simpa using hu2) (by simpa using hu3) fun h' a1 a2 a3 a4 a4' a5 a6 hk => ?_
  refine ⟨_, rfl, ?_⟩
  refine wpAny_letOwnedTupleGo_zip a1 fun h'' hz'' hs'' => ?_
  have hzs : z < s.heap.objs.size := Heap.lt_size hz
  have kk : ∀ c o, c ∉ [z, TI, TO, i1, i2, i3] -> s.heap.get? c = some o -> h''.get? c = some o := fun c o hc e => by
   simp only [mem_cons, not_mem_nil, or_false, not_or] at hc
   exact hs''.extBut _ _ hc.1 (hk c o hc.1 hc.2.2.1 hc.2.2.2.1 hc.2.2.2.2.1 hc.2.2.2.2.2 e)
  have hT : h''.get? s.heap.objs.size = some { cls := .type "tuple", data := .seq #[u1, u2, u3] } := hs''.extBut _ _ (Nat.ne_of_gt hzs) a5
  have I2 : Inv X pins σ (upd H s.heap.objs.size (.tup [x, y, v])) { s with heap := h'', toks := s.toks } :=
   I.turnedN (T := s.heap.objs.size) (o := .tup [x, y, v]) kk hf (Nat.le_refl _) ⟨by show 3 <= sizeLine; decide, [u1, u2, u3], .cons ru1 (.cons ru2 (.cons ru3 .nil)), ⟨_, hT, rfl, _, rfl⟩⟩
  refine ⟨.ref s.heap.objs.size, _, I2, rfl, ⟨_, x, y, v, rfl, I.fresh, rfl, fun zs hzs' => by rw [I.list_inj hzs' hq1]; exact hx, fun zs hzs' => by rw [I.list_inj hzs' hq2]; exact hy, fun zs hzs' => by rw [I.list_inj hzs' hq3]; exact hv⟩,
   ⟨hz'', hs''.extBut _ _ D.TIz (hk _ _ D.TIz D.TITO D.TIi1 D.TIi2 D.TIi3 hTI), ⟨_, _, _, hs''.extBut _ _ D.TOz a2⟩, a3.extBut hs''.extBut D.i1z, a4.extBut hs''.extBut D.i2z, a4'.extBut hs''.extBut D.i3z⟩, fun c hc' => ?_⟩
  have hlt : c < s.heap.objs.size := by
   obtain ⟨o1, e1, _⟩ := h1
   obtain ⟨o2, e2, _⟩ := h2
   obtain ⟨o3, e3, _⟩ := h3
   simp only [mem_cons, not_mem_nil, or_false] at hc'
   rcases hc' with rfl | rfl | rfl | rfl | rfl | rfl
   ·exact hzs
   ·exact Heap.lt_size hTI
   ·exact Heap.lt_size hTO
   ·exact Heap.lt_size e1
   ·exact Heap.lt_size e2
   ·exact Heap.lt_size e3
  rw [upd_ne (Nat.ne_of_lt hlt)]
  exact (hf c hc').1
 done := by
  intro X hP hw hK hc i pins s σ H E I hf st hg
  subst hP hw hK
  obtain ⟨xs, ys, zs, hq1, hq2, hq3, hl⟩ := hg
  obtain ⟨its1, rv1, p1, _⟩ := I.list hq1
  obtain ⟨its2, rv2, p2, _⟩ := I.list hq2
  obtain ⟨its3, rv3, p3, _⟩ := I.list hq3
  obtain ⟨hz, hTI, ⟨a, b, c, hTO⟩, h1, h2, h3⟩ := st
  have l1' := rv1.length
  have l2' := rv2.length
  have l3' := rv3.length
  refine pyNext_zip3_end (I.ok.hd hc) D (apart3_of hz hTO h1 h2 h3 p1.isList) (apart3_of hz hTO h1 h2 h3 p2.isList) (apart3_of hz hTO h1 h2 h3 p3.isList) hz hTI hTO h1 h2 h3 p1.isList p2.isList p3.isList ?_ fun h' hk => ⟨rfl, ?_⟩
  ·rcases hl with q | q | q
   ·exact .inl (by simp; omega)
   ·exact .inr (.inl (by simp; omega))
   ·exact .inr (.inr (by simp; omega))
  exact I.turnedL (t' := s.toks) (fun c o hc e => by
   simp only [mem_cons, not_mem_nil, or_false, not_or] at hc
   exact hk c o hc.1 hc.2.2.1 hc.2.2.2.1 hc.2.2.2.2.1 hc.2.2.2.2.2 e) hf
 self := fun _ _ _ _ _ st h => wpAny_pyIter_zip st.1 h
section
variable {X : Cx}
def iZip3 (K : W.Frag) (ta : TA) : TI := fun σ H R => ta σ H fun vs H1 => ∃ a b c xs ys zs, vs = [.ref a, .ref b, .ref c] /\ SqL K H1 a xs /\ SqL K H1 b ys /\ SqL K H1 c zs /\ R (Itz3 K a b c) H1
theorem pi_zip3 {a b c : Expr} {ta : TA} {p pos : Pos} {es : List Expr} {tk : Nat} {tp : Pos} (hg : Gl X "zip") (hm : X.mg "zip" = none) (ha : PA X [a, b, c] ta) (hs : starEach [a, b, c] X.env = (false, eval a X.env) :: starEach [b, c] X.env := by rfl) (hs2 : ∀ pos, ((backTo pos (starEach [b, c] X.env)).any fun x => x.1) = false := by intro _; rfl) :
  PI X (.Tuple es tk tp) (.Call (.Name "zip" p) [a, b, c] [] pos) (iZip3 X.K ta) := by
 intro pins s σ H R I h
 refine Call_ (ld_blt I hg hm boot_zip (PyProof.Rows.callWith_type1 (thn (ha pos pins s σ H _ I h) fun us s1 hpat => ?_) hs (hs2 _)))
 obtain ⟨vs, H1, I1, r1, q1⟩ := hpat
 obtain ⟨l1, l2, l3, xs, ys, zs, e, q1, q2, q3, q⟩ := q1
 subst e
 cases r1 with
 | cons r rr =>
  cases rr with
  | cons r' rr =>
   cases rr with
   | cons r'' rr =>
   cases rr
   cases r
   cases r'
   cases r''
   obtain ⟨its1, rv1, p1, _⟩ := I1.list q1
   obtain ⟨its2, rv2, p2, _⟩ := I1.list q2
   obtain ⟨its3, rv3, p3, _⟩ := I1.list q3
   refine call_zip_3 p1.isList p2.isList p3.isList fun h' hz hTI hTO hi1 hi2 hi3 hk => ?_
   have I2 : Inv X pins σ H1 { s1 with heap := h', toks := s1.toks } := I1.kept hk
   refine wpAny_pyIter_zip (s := { s1 with heap := h' }) hz ?_
   refine ⟨_, [s1.heap.objs.size + 5, s1.heap.objs.size + 3, s1.heap.objs.size + 4, s1.heap.objs.size, s1.heap.objs.size + 1, s1.heap.objs.size + 2], _, _, H1, rfl, I2, turn_zip3 _ _ _ _ _ _ l1 l2 l3 (zip3_new _),
    ⟨hz, hTI, ⟨_, _, _, hTO⟩, hi1, hi2, hi3⟩, fun b hb => ?_, q⟩
   have hb' : s1.heap.objs.size <= b := by
    simp only [mem_cons, not_mem_nil, or_false] at hb
    rcases hb with rfl | rfl | rfl | rfl | rfl | rfl
    ·exact Nat.le_add_right _ 5
    ·exact Nat.le_add_right _ 3
    ·exact Nat.le_add_right _ 4
    ·exact Nat.le_refl _
    ·exact Nat.le_add_right _ 1
    ·exact Nat.le_add_right _ 2
   exact I1.fpOk hb' (I1.hok.fresh hb')
end
section
variable {X : Cx}
end
end
section
def XAt (a C : Addr) (h : Heap) : Prop := ∃ o vs, h.get? a = some o /\ o.cls = .ref C /\ o.data = .fields vs
def xName (K : W.Frag) (C : Addr) : Option Str := match K.lookup C with
 | some ⟨_, _, .cls cd, _⟩ => some cd.name
 | _ => none
inductive D where
 | non | bl (b : Bool) | int (i : Int) | str (x : Str) | lst (ds : List D) | tup (ds : List D) | exc (c : Str)
 | ptr (a : Addr) | obj (c : Str) (ns : List Str) (ds : List D)
mutual
inductive Rep (K : W.Frag) (F : Hp) : V -> D -> Prop
 | non : Rep K F .non .non
 | bl (b : Bool) : Rep K F (.bl b) (.bl b)
 | int (i : Int) : Rep K F (.int i) (.int i)
 | str (x : Str) : Rep K F (.str x) (.str x)
 | lst {a : Addr} {xs : List V} {ds : List D} : SqL K F a xs -> Reps K F xs ds -> Rep K F (.ref a) (.lst ds)
 | tup {a : Addr} {xs : List V} {ds : List D} : SqT K F a xs -> Reps K F xs ds -> Rep K F (.ref a) (.tup ds)
 | exc {a C : Addr} {c : Str} : (W.nsIn K mainGlobals c = some (some (.ref C)) /\ xName K C = some c) -> F a = some (.ext (XAt a C)) -> Rep K F (.ref a) (.exc c)
 | ptr (a : Addr) : Rep K F (.ref a) (.ptr a)
 | obj {a dx C : Addr} {c : Str} {ns : List Str} {xs : List V} {ds : List D} : W.nsIn K mainGlobals c = some (some (.ref C)) -> ns.length = xs.length -> F a = some (.ins C dx (ns.zip xs)) -> F dx = some (.own a) -> Reps K F xs ds -> Rep K F (.ref a) (.obj c ns ds)
inductive Reps (K : W.Frag) (F : Hp) : List V -> List D -> Prop
 | nil : Reps K F [] []
 | cons {v : V} {d : D} {vs : List V} {ds : List D} : Rep K F v d -> Reps K F vs ds -> Reps K F (v :: vs) (d :: ds)
end
theorem Same.seqT {K : W.Frag} {H H' : Hp} {a : Addr} {xs : List V} (e : Same H H') (h : SqT K H a xs) : SqT K H' a xs := by
 rcases h with (h | ⟨o, h⟩) | h
 ·exact .inl (.inl (e _ _ h))
 ·exact .inl (.inr ⟨o, e _ _ h⟩)
 ·exact .inr h
section
variable {K : W.Frag} {F F' : Hp}
mutual
theorem Rep.mono (e : Same F F') : ∀ {v : V} {d : D}, Rep K F v d -> Rep K F' v d
 | _, _, .non => .non
 | _, _, .bl b => .bl b
 | _, _, .int i => .int i
 | _, _, .str x => .str x
 | _, _, .lst h r => .lst (e.seq h) (Reps.mono e r)
 | _, _, .tup h r => .tup (e.seqT h) (Reps.mono e r)
 | _, _, .exc h r => .exc h (e _ _ r)
 | _, _, .ptr a => .ptr a
 | _, _, .obj c l h h2 r => .obj c l (e _ _ h) (e _ _ h2) (Reps.mono e r)
theorem Reps.mono (e : Same F F') : ∀ {vs : List V} {ds : List D}, Reps K F vs ds -> Reps K F' vs ds
 | _, _, .nil => .nil
 | _, _, .cons h r => .cons (Rep.mono e h) (Reps.mono e r)
end
theorem Reps.length : ∀ {vs : List V} {ds : List D}, Reps K F vs ds -> vs.length = ds.length
 | _, _, .nil => rfl
 | _, _, .cons _ r => congrArg (· + 1) (Reps.length r)
theorem Reps.get : ∀ {vs : List V} {ds : List D} {i : Nat} {d : D}, Reps K F vs ds -> ds[i]? = some d -> ∃ v, vs[i]? = some v /\ Rep K F v d
 | _, _, _, _, .nil, e => by simp at e
 | _, _, 0, _, .cons h _, e => by simp at e; subst e; exact ⟨_, rfl, h⟩
 | _, _, i + 1, d, .cons _ r, e => by
  obtain ⟨v, h1, h2⟩ := Reps.get (i := i) (d := d) r (by simpa using e)
  exact ⟨v, by simpa using h1, h2⟩
theorem Reps.get' : ∀ {vs : List V} {ds : List D} {i : Nat} {v : V}, Reps K F vs ds -> vs[i]? = some v -> ∃ d, ds[i]? = some d /\ Rep K F v d
 | _, _, _, _, .nil, e => by simp at e
 | _, _, 0, _, .cons h _, e => by simp at e; subst e; exact ⟨_, rfl, h⟩
 | _, _, i + 1, d, .cons _ r, e => by
  obtain ⟨v, h1, h2⟩ := Reps.get' (i := i) (v := d) r (by simpa using e)
  exact ⟨v, by simpa using h1, h2⟩
theorem Reps.append : ∀ {vs ws : List V} {ds es : List D}, Reps K F vs ds -> Reps K F ws es -> Reps K F (vs ++ ws) (ds ++ es)
 | _, _, _, _, .nil, s => s
 | _, _, _, _, .cons h r, s => .cons h (Reps.append r s)
theorem Reps.take : ∀ {vs : List V} {ds : List D} (n : Nat), Reps K F vs ds -> Reps K F (vs.take n) (ds.take n)
 | _, _, 0, _ => .nil
 | _, _, _ + 1, .nil => .nil
 | _, _, n + 1, .cons h r => .cons h (Reps.take n r)
theorem Reps.drop : ∀ {vs : List V} {ds : List D} (n : Nat), Reps K F vs ds -> Reps K F (vs.drop n) (ds.drop n)
 | _, _, 0, r => r
 | _, _, _ + 1, .nil => .nil
 | _, _, n + 1, .cons _ r => Reps.drop n r
theorem Reps.set {v : V} {d : D} (h : Rep K F v d) : ∀ {vs : List V} {ds : List D} (i : Nat), Reps K F vs ds -> Reps K F (vs.set i v) (ds.set i d)
 | _, _, _, .nil => .nil
 | _, _, 0, .cons _ r => .cons h r
 | _, _, i + 1, .cons q r => .cons q (Reps.set h i r)
end
structure Ext (F H F' H' : Hp) : Prop where
 ff : Same F F'
 hh : Same H H'
 fh : Same F' H'
 new : ∀ b, F b = none -> F' b ≠ none -> H b = none
 nf : ∀ b o u, F' b = some (.frz o u) -> F b = some (.frz o u)
theorem Ext.refl {F H : Hp} (h : Same F H) : Ext F H F H := ⟨Same.refl _, Same.refl _, h, fun b e n => absurd e n, fun _ _ _ z => z⟩
theorem Ext.trans {F H F1 H1 F2 H2 : Hp} (a : Ext F H F1 H1) (b : Ext F1 H1 F2 H2) : Ext F H F2 H2 :=
 ⟨a.ff.trans b.ff, a.hh.trans b.hh, b.fh, fun c e n => by
  by_cases h : F1 c = none
  ·exact a.hh.free (b.new c h n)
  ·exact a.new c e h, fun c o u z => a.nf c o u (b.nf c o u z)⟩
theorem Same.put {F H : Hp} {p : Addr} {o : HO} (h : Same F H) (hp : F p = none) : Same F (upd H p o) := fun b u e => by
 rw [upd_ne (ne_of_none e hp)]; exact h b u e
theorem Same.put2 {F H : Hp} {p : Addr} {o : HO} (h : Same F H) : Same (upd F p o) (upd H p o) := fun b u e => by
 by_cases hb : b = p
 ·subst hb; rw [upd_same] at e ⊢; exact e
 ·rw [upd_ne hb] at e ⊢; exact h b u e
theorem Ext.laid {F H : Hp} {p : Addr} {o : HO} (h : Same F H) (hp : H p = none) (hz : ∀ a u, o ≠ .frz a u := by intro _ _ z; cases z) : Ext F H (upd F p o) (upd H p o) :=
 ⟨(Same.refl F).put (h.free hp), (Same.refl H).put hp, h.put2, fun b e n => by
  by_cases hb : b = p
  ·subst hb; exact hp
  ·rw [upd_ne hb] at n; exact absurd e n, fun b a u z => by
  by_cases hb : b = p
  ·subst hb; rw [upd_same] at z; exact absurd (Option.some.inj z) (hz a u)
  ·rw [upd_ne hb] at z; exact z⟩
theorem Ext.own {F H : Hp} {p : Addr} {o : HO} (h : Same F H) (hp : H p = none) : Ext F H F (upd H p o) :=
 ⟨Same.refl F, (Same.refl H).put hp, h.put (h.free hp), fun b e n => absurd e n, fun _ _ _ z => z⟩
theorem Ext.freeze {F H F' H' : Hp} {p : Addr} {o : HO} (a : Ext F H F' H') (hp' : F' p = none) (hp : H p = none) (ho : H' p = some o) (hz : ∀ a u, o ≠ .frz a u := by intro _ _ z; cases z) : Ext F H (upd F' p o) H' :=
 ⟨a.ff.put (a.ff.free hp'), a.hh, fun b u e => by
   by_cases hb : b = p
   ·subst hb; rw [upd_same] at e; cases e; exact ho
   ·rw [upd_ne hb] at e; exact a.fh b u e, fun b e n => by
   by_cases hb : b = p
   ·subst hb; exact hp
   ·rw [upd_ne hb] at n; exact a.new b e n, fun b c u z => by
   by_cases hb : b = p
   ·subst hb; rw [upd_same] at z; exact absurd (Option.some.inj z) (hz c u)
   ·rw [upd_ne hb] at z; exact a.nf b c u z⟩
inductive S where
 | sh (d : D) | own (ds : List D) | ob (p : Addr) (ds : List D)
abbrev Ro := List (Option S)
structure Rl (K : W.Frag) (F0 H0 F H : Hp) (σ : St) (ρ : Ro) : Prop where
 ext : Ext F0 H0 F H
 len : σ.length = ρ.length
 sh : ∀ (i : Nat) d, ρ[i]? = some (some (.sh d)) -> ∃ v, σ[i]? = some (some v) /\ Rep K F v d
 own : ∀ (i : Nat) ds, ρ[i]? = some (some (.own ds)) -> ∃ p xs, σ[i]? = some (some (.ref p)) /\ F p = none /\ H p = some (.lst xs) /\ Reps K F xs ds /\ H0 p = none
 inj : ∀ (i j : Nat) p ds es, i ≠ j -> ρ[i]? = some (some (.own ds)) -> ρ[j]? = some (some (.own es)) -> σ[i]? = some (some (.ref p)) -> σ[j]? = some (some (.ref p)) -> False
 ob : ∀ (i : Nat) p ds, ρ[i]? = some (some (.ob p ds)) -> σ[i]? = some (some (.ref p)) /\ F p = none /\ H0 p = none /\ ∃ xs, H p = some (.lst xs) /\ Reps K F xs ds
 obn : ∀ (i j : Nat) p ds es, ρ[i]? = some (some (.ob p ds)) -> ρ[j]? = some (some (.own es)) -> σ[j]? = some (some (.ref p)) -> False
 ob1 : ∀ (i j : Nat) p q ds es, ρ[i]? = some (some (.ob p ds)) -> ρ[j]? = some (some (.ob q es)) -> i = j
def nob : Option S -> Prop
 | some (.ob _ _) => False
 | _ => True
theorem set_ob {ρ : Ro} {i j : Nat} {x : Option S} {p : Addr} {ds : List D} (e : (ρ.set i x)[j]? = some (some (.ob p ds))) (hx : nob x := by exact True.intro) : i ≠ j /\ ρ[j]? = some (some (.ob p ds)) := by
 by_cases hj : i = j
 ·subst hj
  rcases Nat.lt_or_ge i ρ.length with z | z
  ·rw [getElem?_set_self z] at e; cases e; exact hx.elim
  ·rw [getElem?_eq_none (by simpa using z)] at e; cases e
 ·rw [getElem?_set_ne hj] at e; exact ⟨hj, e⟩
section
variable {K : W.Frag} {F0 H0 F H F' H' : Hp} {σ : St} {ρ : Ro}
theorem Rl.fh (r : Rl K F0 H0 F H σ ρ) : Same F H := r.ext.fh
theorem Rl.go (r : Rl K F0 H0 F H σ ρ) (e : Ext F H F' H') : Rl K F0 H0 F' H' σ ρ where
 ext := r.ext.trans e
 len := r.len
 sh := fun i d h => let ⟨v, a, b⟩ := r.sh i d h; ⟨v, a, b.mono e.ff⟩
 own := fun i ds h => by
  obtain ⟨p, xs, a, b, c, d, z⟩ := r.own i ds h
  refine ⟨p, xs, a, ?_, e.hh _ _ c, d.mono e.ff, z⟩
  cases q : F' p with
  | none => rfl
  | some o => have := e.new p b (by rw [q]; simp); rw [this] at c; cases c
 inj := r.inj
 ob := fun i p ds h => by
  obtain ⟨a, b, c, xs, d, z⟩ := r.ob i p ds h
  refine ⟨a, ?_, c, xs, e.hh _ _ d, z.mono e.ff⟩
  cases q : F' p with
  | none => rfl
  | some o => have := e.new p b (by rw [q]; simp); rw [this] at d; cases d
 obn := r.obn
 ob1 := r.ob1
theorem Rl.set (r : Rl K F0 H0 F H σ ρ) {i : Nat} {v : V} {d : D} (h : Rep K F v d) : Rl K F0 H0 F H (σ.set i (some v)) (ρ.set i (some (.sh d))) where
 ext := r.ext
 len := by simp [r.len]
 sh := fun j d' e => by
  by_cases hj : i = j
  ·subst hj
   have hl : i < ρ.length := by
    rcases Nat.lt_or_ge i ρ.length with z | z
    ·exact z
    ·rw [getElem?_eq_none (by simpa using z)] at e; cases e
   rw [getElem?_set_self hl] at e
   cases e
   exact ⟨v, by rw [getElem?_set_self (by rw [r.len]; exact hl)], h⟩
  ·rw [getElem?_set_ne hj] at e ⊢
   exact r.sh j d' e
 own := fun j ds e => by
  by_cases hj : i = j
  ·subst hj
   have hl : i < ρ.length := by
    rcases Nat.lt_or_ge i ρ.length with z | z
    ·exact z
    ·rw [getElem?_eq_none (by simpa using z)] at e; cases e
   rw [getElem?_set_self hl] at e
   cases e
  ·rw [getElem?_set_ne hj] at e ⊢
   exact r.own j ds e
 inj := fun j k p ds es hjk e1 e2 e3 e4 => by
  have n1 : i ≠ j := fun z => by
   subst z
   have hl : i < ρ.length := by
    rcases Nat.lt_or_ge i ρ.length with z | z
    ·exact z
    ·rw [getElem?_eq_none (by simpa using z)] at e1; cases e1
   rw [getElem?_set_self hl] at e1; cases e1
  have n2 : i ≠ k := fun z => by
   subst z
   have hl : i < ρ.length := by
    rcases Nat.lt_or_ge i ρ.length with z | z
    ·exact z
    ·rw [getElem?_eq_none (by simpa using z)] at e2; cases e2
   rw [getElem?_set_self hl] at e2; cases e2
  rw [getElem?_set_ne n1] at e1 e3
  rw [getElem?_set_ne n2] at e2 e4
  exact r.inj j k p ds es hjk e1 e2 e3 e4
 ob := fun j p ds e => by
  obtain ⟨n, e⟩ := set_ob e
  rw [getElem?_set_ne n]; exact r.ob j p ds e
 obn := fun j k p ds es e1 e2 e3 => by
  obtain ⟨n, e1⟩ := set_ob e1
  have n2 : i ≠ k := fun z => by
   subst z
   have hl : i < ρ.length := by
    rcases Nat.lt_or_ge i ρ.length with z | z
    ·exact z
    ·rw [getElem?_eq_none (by simpa using z)] at e2; cases e2
   rw [getElem?_set_self hl] at e2; cases e2
  rw [getElem?_set_ne n2] at e2 e3
  exact r.obn j k p ds es e1 e2 e3
 ob1 := fun j k p q ds es e1 e2 => r.ob1 j k p q ds es (set_ob e1).2 (set_ob e2).2
theorem Rl.setOwn (r : Rl K F0 H0 F H σ ρ) {i : Nat} {p : Addr} {xs : List V} {ds : List D} (hF : F p = none) (hH : H p = some (.lst xs)) (h : Reps K F xs ds) (h0 : H0 p = none)
  (fr : ∀ (j : Nat) es, i ≠ j -> ρ[j]? = some (some (.own es)) -> σ[j]? = some (some (.ref p)) -> False) (fo : ∀ (j : Nat) q es, ρ[j]? = some (some (.ob q es)) -> q ≠ p) : Rl K F0 H0 F H (σ.set i (some (.ref p))) (ρ.set i (some (.own ds))) where
 ext := r.ext
 len := by simp [r.len]
 sh := fun j d' e => by
  by_cases hj : i = j
  ·subst hj
   have hl : i < ρ.length := by
    rcases Nat.lt_or_ge i ρ.length with z | z
    ·exact z
    ·rw [getElem?_eq_none (by simpa using z)] at e; cases e
   rw [getElem?_set_self hl] at e
   cases e
  ·rw [getElem?_set_ne hj] at e ⊢
   exact r.sh j d' e
 own := fun j es e => by
  by_cases hj : i = j
  ·subst hj
   have hl : i < ρ.length := by
    rcases Nat.lt_or_ge i ρ.length with z | z
    ·exact z
    ·rw [getElem?_eq_none (by simpa using z)] at e; cases e
   rw [getElem?_set_self hl] at e
   cases e
   exact ⟨p, xs, by rw [getElem?_set_self (by rw [r.len]; exact hl)], hF, hH, h, h0⟩
  ·rw [getElem?_set_ne hj] at e ⊢
   exact r.own j es e
 inj := fun j k q es es' hjk e1 e2 e3 e4 => by
  by_cases n1 : i = j
  ·subst n1
   rw [getElem?_set_ne hjk] at e2 e4
   have hl : i < σ.length := by
    rcases Nat.lt_or_ge i σ.length with z | z
    ·exact z
    ·rw [getElem?_eq_none (by simpa using z)] at e3; cases e3
   rw [getElem?_set_self hl] at e3
   cases e3
   exact fr k es' hjk e2 e4
  ·rw [getElem?_set_ne n1] at e1 e3
   by_cases n2 : i = k
   ·subst n2
    have hl : i < σ.length := by
     rcases Nat.lt_or_ge i σ.length with z | z
     ·exact z
     ·rw [getElem?_eq_none (by simpa using z)] at e4; cases e4
    rw [getElem?_set_self hl] at e4
    cases e4
    exact fr j es n1 e1 e3
   ·rw [getElem?_set_ne n2] at e2 e4
    exact r.inj j k q es es' hjk e1 e2 e3 e4
 ob := fun j q es e => by
  obtain ⟨n, e⟩ := set_ob e
  rw [getElem?_set_ne n]; exact r.ob j q es e
 obn := fun j k q es es' e1 e2 e3 => by
  obtain ⟨n, e1⟩ := set_ob e1
  by_cases n2 : i = k
  ·subst n2
   have hl : i < σ.length := by
    rcases Nat.lt_or_ge i σ.length with z | z
    ·exact z
    ·rw [getElem?_eq_none (by simpa using z)] at e3; cases e3
   rw [getElem?_set_self hl] at e3
   cases e3
   exact fo j p es e1 rfl
  ·rw [getElem?_set_ne n2] at e2 e3
   exact r.obn j k q es es' e1 e2 e3
 ob1 := fun j k p q ds es e1 e2 => r.ob1 j k p q ds es (set_ob e1).2 (set_ob e2).2
theorem Rl.freeze (r : Rl K F0 H0 F H σ ρ) {i : Nat} {ds : List D} (h : ρ[i]? = some (some (.own ds))) : ∃ F', Rl K F0 H0 F' H σ (ρ.set i (some (.sh (.lst ds)))) /\ Same F F' := by
 obtain ⟨p, xs, a, b, c, d, z⟩ := r.own i ds h
 have hl : i < ρ.length := (List.getElem?_eq_some_iff.mp h).1
 have e : Ext F0 H0 (upd F p (.lst xs)) H := r.ext.freeze b z c
 have ff : Same F (upd F p (.lst xs)) := (Same.refl F).put b
 refine ⟨upd F p (.lst xs), ⟨e, by simp [r.len], fun j d' q => ?_, fun j es q => ?_, fun j k q es es' hjk e1 e2 e3 e4 => ?_, fun j q es e1 => ?_, fun j k q es es' e1 e2 e3 => ?_, fun j k q q' es es' e1 e2 => r.ob1 j k q q' es es' (set_ob e1).2 (set_ob e2).2⟩, ff⟩
 ·by_cases hj : i = j
  ·subst hj
   rw [getElem?_set_self hl] at q
   cases q
   exact ⟨_, a, .lst (SqL.of upd_same) (d.mono ff)⟩
  ·rw [getElem?_set_ne hj] at q
   obtain ⟨v, v1, v2⟩ := r.sh j d' q
   exact ⟨v, v1, v2.mono ff⟩
 ·by_cases hj : i = j
  ·subst hj
   rw [getElem?_set_self hl] at q
   cases q
  ·rw [getElem?_set_ne hj] at q
   obtain ⟨p', xs', a', b', c', d', z'⟩ := r.own j es q
   have hp : p' ≠ p := fun w => r.inj i j p ds es hj h q a (by rw [<- w]; exact a')
   exact ⟨p', xs', a', by rw [upd_ne hp]; exact b', c', d'.mono ff, z'⟩
 ·have n1 : i ≠ j := fun w => by subst w; rw [getElem?_set_self hl] at e1; cases e1
  have n2 : i ≠ k := fun w => by subst w; rw [getElem?_set_self hl] at e2; cases e2
  rw [getElem?_set_ne n1] at e1
  rw [getElem?_set_ne n2] at e2
  exact r.inj j k q es es' hjk e1 e2 e3 e4
 ·obtain ⟨n, e1⟩ := set_ob e1
  obtain ⟨o1, o2, o3, zs, o4, o5⟩ := r.ob j q es e1
  have hp : q ≠ p := fun w => r.obn j i q es ds e1 h (by rw [w]; exact a)
  exact ⟨o1, by rw [upd_ne hp]; exact o2, o3, zs, o4, o5.mono ff⟩
 ·obtain ⟨n, e1⟩ := set_ob e1
  have n2 : i ≠ k := fun w => by subst w; rw [getElem?_set_self hl] at e2; cases e2
  rw [getElem?_set_ne n2] at e2
  exact r.obn j k q es es' e1 e2 e3
theorem Rl.write (r : Rl K F0 H0 F H σ ρ) {i : Nat} {p : Addr} {ys : List V} {ds es : List D} (h : ρ[i]? = some (some (.own ds))) (hp : σ[i]? = some (some (.ref p))) (hy : Reps K F ys es) :
  Rl K F0 H0 F (upd H p (.lst ys)) σ (ρ.set i (some (.own es))) := by
 obtain ⟨p', xs', a, b, c, d, z⟩ := r.own i ds h
 rw [hp] at a; cases a
 have hl : i < ρ.length := (List.getElem?_eq_some_iff.mp h).1
 refine ⟨⟨r.ext.ff, r.ext.hh.put z, r.ext.fh.put b, r.ext.new, r.ext.nf⟩, by simp [r.len], fun j d' q => ?_, fun j fs q => ?_, fun j k q fs fs' hjk e1 e2 e3 e4 => ?_, fun j q fs e1 => ?_, fun j k q fs fs' e1 e2 e3 => ?_, fun j k q q' es es' e1 e2 => r.ob1 j k q q' es es' (set_ob e1).2 (set_ob e2).2⟩
 ·by_cases hj : i = j
  ·subst hj
   rw [getElem?_set_self hl] at q
   cases q
  ·rw [getElem?_set_ne hj] at q
   exact r.sh j d' q
 ·by_cases hj : i = j
  ·subst hj
   rw [getElem?_set_self hl] at q
   cases q
   exact ⟨p, ys, hp, b, upd_same, hy, z⟩
  ·rw [getElem?_set_ne hj] at q
   obtain ⟨p2, xs2, a2, b2, c2, d2, z2⟩ := r.own j fs q
   have hpp : p2 ≠ p := fun w => r.inj i j p ds fs hj h q hp (by rw [<- w]; exact a2)
   exact ⟨p2, xs2, a2, b2, by rw [upd_ne hpp]; exact c2, d2, z2⟩
 ·have back : ∀ (m : Nat) gs, (ρ.set i (some (S.own es)))[m]? = some (some (.own gs)) -> ∃ gs', ρ[m]? = some (some (.own gs')) := fun m gs e => by
   by_cases hm : i = m
   ·subst hm; exact ⟨ds, h⟩
   ·rw [getElem?_set_ne hm] at e; exact ⟨gs, e⟩
  obtain ⟨g1, e1⟩ := back j fs e1
  obtain ⟨g2, e2⟩ := back k fs' e2
  exact r.inj j k q g1 g2 hjk e1 e2 e3 e4
 ·obtain ⟨n, e1⟩ := set_ob e1
  obtain ⟨o1, o2, o3, zs, o4, o5⟩ := r.ob j q fs e1
  have hpp : q ≠ p := fun w => r.obn j i q fs ds e1 h (by rw [w]; exact hp)
  exact ⟨o1, o2, o3, zs, by rw [upd_ne hpp]; exact o4, o5⟩
 ·obtain ⟨n, e1⟩ := set_ob e1
  by_cases n2 : i = k
  ·subst n2; exact r.obn j i q fs ds e1 h e3
  ·rw [getElem?_set_ne n2] at e2
   exact r.obn j k q fs fs' e1 e2 e3
theorem Rl.writeB (r : Rl K F0 H0 F H σ ρ) {i : Nat} {p : Addr} {ys : List V} {ds es : List D} (h : ρ[i]? = some (some (.ob p ds))) (hy : Reps K F ys es) :
  Rl K F0 H0 F (upd H p (.lst ys)) σ (ρ.set i (some (.ob p es))) := by
 obtain ⟨a, b, z, xs', c, d⟩ := r.ob i p ds h
 have hl : i < ρ.length := (List.getElem?_eq_some_iff.mp h).1
 have back : ∀ (j : Nat) q fs, (ρ.set i (some (S.ob p es)))[j]? = some (some (.ob q fs)) -> j = i /\ q = p /\ fs = es := fun j q fs e => by
  by_cases hj : i = j
  ·subst hj; rw [getElem?_set_self hl] at e; cases e; exact ⟨rfl, rfl, rfl⟩
  ·rw [getElem?_set_ne hj] at e; exact absurd (r.ob1 i j p q ds fs h e) hj
 have other : ∀ (j : Nat) fs, (ρ.set i (some (S.ob p es)))[j]? = some (some (.own fs)) -> i ≠ j /\ ρ[j]? = some (some (.own fs)) := fun j fs e => by
  by_cases hj : i = j
  ·subst hj; rw [getElem?_set_self hl] at e; cases e
  ·rw [getElem?_set_ne hj] at e; exact ⟨hj, e⟩
 refine ⟨⟨r.ext.ff, r.ext.hh.put z, r.ext.fh.put b, r.ext.new, r.ext.nf⟩, by simp [r.len], fun j d' q => ?_, fun j fs q => ?_, fun j k q fs fs' hjk e1 e2 e3 e4 => r.inj j k q fs fs' hjk (other j fs e1).2 (other k fs' e2).2 e3 e4, fun j q fs e1 => ?_, fun j k q fs fs' e1 e2 e3 => ?_, fun j k q q' fs fs' e1 e2 => ?_⟩
 ·by_cases hj : i = j
  ·subst hj; rw [getElem?_set_self hl] at q; cases q
  ·rw [getElem?_set_ne hj] at q; exact r.sh j d' q
 ·obtain ⟨n, e⟩ := other j fs q
  obtain ⟨p2, xs2, a2, b2, c2, d2, z2⟩ := r.own j fs e
  have hpp : p2 ≠ p := fun w => r.obn i j p ds fs h e (by rw [<- w]; exact a2)
  exact ⟨p2, xs2, a2, b2, by rw [upd_ne hpp]; exact c2, d2, z2⟩
 ·obtain ⟨e2, e3, e4⟩ := back j q fs e1
  subst e2 e3 e4
  exact ⟨a, b, z, ys, upd_same, hy⟩
 ·obtain ⟨e4, e5, _⟩ := back j q fs e1
  subst e4 e5
  exact r.obn j k q ds fs' h (other k fs' e2).2 e3
 ·rw [(back j q fs e1).1, (back k q' fs' e2).1]
end
theorem Rep.n' {K : W.Frag} {F : Hp} {x : V} (r : Rep K F x .non) : x = .non := by cases r; rfl
theorem Rep.b' {K : W.Frag} {F : Hp} {x : V} {i : Bool} (r : Rep K F x (.bl i)) : x = .bl i := by cases r; rfl
theorem Rep.i' {K : W.Frag} {F : Hp} {x : V} {i : Int} (r : Rep K F x (.int i)) : x = .int i := by cases r; rfl
theorem Rep.s' {K : W.Frag} {F : Hp} {x : V} {i : Str} (r : Rep K F x (.str i)) : x = .str i := by cases r; rfl
theorem Rep.l' {K : W.Frag} {F : Hp} {x : V} {ds : List D} (r : Rep K F x (.lst ds)) : ∃ a xs, x = .ref a /\ SqL K F a xs /\ Reps K F xs ds := by cases r with | lst s r => exact ⟨_, _, rfl, s, r⟩
theorem Rep.t' {K : W.Frag} {F : Hp} {x : V} {ds : List D} (r : Rep K F x (.tup ds)) : ∃ a xs, x = .ref a /\ SqT K F a xs /\ Reps K F xs ds := by cases r with | tup s r => exact ⟨_, _, rfl, s, r⟩
end
section
abbrev ME := Ro -> Option D
abbrev ML := Ro -> Option (List D)
abbrev MB := Ro -> Option Bool
def TD (K : W.Frag) (m : ME) : TE := fun σ H Q => ∃ F0 H0 F ρ d, Rl K F0 H0 F H σ ρ /\ m ρ = some d /\ ∀ v F' H', Ext F H F' H' -> Rep K F' v d -> Q v H'
def TF (K : W.Frag) (m : ML) : TE := fun σ H Q => ∃ F0 H0 F ρ ds, Rl K F0 H0 F H σ ρ /\ m ρ = some ds /\ ∀ p xs F' H', Ext F H F' H' -> H p = none -> F' p = none -> H' p = some (.lst xs) -> Reps K F' xs ds -> Q (.ref p) H'
def TB (K : W.Frag) (m : ML) : TE := fun σ H Q => ∃ F0 H0 F ρ ds, Rl K F0 H0 F H σ ρ /\ m ρ = some ds /\ ∀ p xs F' H', Ext F H F' H' -> SqL K H' p xs -> Reps K F' xs ds -> Q (.ref p) H'
def TC (K : W.Frag) (c : MB) : TT := fun σ H Q => ∃ F0 H0 F ρ b, Rl K F0 H0 F H σ ρ /\ c ρ = some b /\ ∀ F' H', Ext F H F' H' -> Q b H'
def TAs (K : W.Frag) (m : ML) : TA := fun σ H Q => ∃ F0 H0 F ρ ds, Rl K F0 H0 F H σ ρ /\ m ρ = some ds /\ ∀ vs F' H', Ext F H F' H' -> Reps K F' vs ds -> Q vs H'
def PD (X : Cx) (e : Expr) (m : ME) : Prop := PE X e (TD X.K m)
def PF (X : Cx) (e : Expr) (m : ML) : Prop := PE X e (TF X.K m)
def PB (X : Cx) (e : Expr) (m : ML) : Prop := PE X e (TB X.K m)
def PC' (X : Cx) (e : Expr) (c : MB) : Prop := PT X e (TC X.K c)
def PCw (X : Cx) (e : Expr) (c : MB) : Prop := PW X e (TC X.K c)
def PAs (X : Cx) (es : List Expr) (m : ML) : Prop := PA X es (TAs X.K m)
section
variable {X : Cx} {a b c e : Expr} {ma mb : ME} {pos : Pos}
theorem PE.imp {t t' : TE} (h : PE X e t) (i : ∀ σ H Q, t' σ H Q -> t σ H Q) : PE X e t' := fun pins s σ H Q I q => h pins s σ H Q I (i σ H Q q)
theorem PT.imp {t t' : TT} (h : PT X e t) (i : ∀ σ H Q, t' σ H Q -> t σ H Q) : PT X e t' := fun pins s σ H Q I q => h pins s σ H Q I (i σ H Q q)
theorem PW.imp {t t' : TT} (h : PW X e t) (i : ∀ σ H Q, t' σ H Q -> t σ H Q) : PW X e t' := fun w pins s σ H Q I q => h w pins s σ H Q I (i σ H Q q)
theorem PA.imp {es : List Expr} {t t' : TA} (h : PA X es t) (i : ∀ σ H Q, t' σ H Q -> t σ H Q) : PA X es t' := fun pos pins s σ H Q I q => h pos pins s σ H Q I (i σ H Q q)
def mvar (i : Nat) : ME := fun ρ => match ρ[i]? with | some (some (.sh d)) => some d | _ => none
def bvar (i : Nat) : ML := fun ρ => match ρ[i]? with | some (some (.sh (.lst ds))) => some ds | some (some (.own ds)) => some ds | some (some (.ob _ ds)) => some ds | _ => none
def mc (d : D) : ME := fun _ => some d
theorem pd_var (i : Nat) {x : Str} {pos : Pos} (h : PE X (.Name x pos) (tVar i)) : PD X (.Name x pos) (mvar i) := h.imp fun σ H Q hpat => by
 obtain ⟨F0, H0, F, ρ, d, r, e, q⟩ := hpat
 unfold mvar at e
 split at e
 ·rename_i h'
  cases e
  obtain ⟨v, e1, e2⟩ := r.sh i _ h'
  exact ⟨v, e1, q v F H (.refl r.fh) e2⟩
 ·cases e
theorem pb_var (i : Nat) {x : Str} {pos : Pos} (h : PE X (.Name x pos) (tVar i)) : PB X (.Name x pos) (bvar i) := h.imp fun σ H Q hpat => by
 obtain ⟨F0, H0, F, ρ, d, r, e, q⟩ := hpat
 unfold bvar at e
 split at e
 ·rename_i ds h'
  cases e
  obtain ⟨v, e1, e2⟩ := r.sh i _ h'
  cases e2 with
  | lst s rs => exact ⟨_, e1, q _ _ F H (.refl r.fh) (r.fh.seq s) rs⟩
 ·rename_i ds h'
  cases e
  obtain ⟨p, xs, e1, e2, e3, e4, _⟩ := r.own i _ h'
  exact ⟨_, e1, q _ _ F H (.refl r.fh) (SqL.of e3) e4⟩
 ·rename_i p ds h'
  cases e
  obtain ⟨e1, e2, _, xs, e3, e4⟩ := r.ob i p _ h'
  exact ⟨_, e1, q _ _ F H (.refl r.fh) (SqL.of e3) e4⟩
 ·cases e
theorem pd_int {i : Int} {j pos} : PD X (.Constant (.int i) j pos) (mc (.int i)) := pe_int.imp fun σ H Q hpat => by
 obtain ⟨F0, H0, F, ρ, d, r, e, q⟩ := hpat
 cases e; exact q _ F H (.refl r.fh) (.int i)
theorem pd_bl {b : Bool} {j pos} : PD X (.Constant (.bool b) j pos) (mc (.bl b)) := pe_bl.imp fun σ H Q hpat => by
 obtain ⟨F0, H0, F, ρ, d, r, e, q⟩ := hpat
 cases e; exact q _ F H (.refl r.fh) (.bl b)
theorem pd_non {j pos} : PD X (.Constant .none j pos) (mc .non) := pe_non.imp fun σ H Q hpat => by
 obtain ⟨F0, H0, F, ρ, d, r, e, q⟩ := hpat
 cases e; exact q _ F H (.refl r.fh) .non
def mlst (m : ML) : ME := fun ρ => (m ρ).map .lst
def aslst (m : ME) : ML := fun ρ => match m ρ with | some (.lst ds) => some ds | _ => none
theorem pf_pd {m : ML} (h : PF X e m) : PD X e (mlst m) := h.imp fun σ H Q hpat => by
 obtain ⟨F0, H0, F, ρ, d, r, e, q⟩ := hpat
 unfold mlst at e
 cases hm : m ρ with
 | none => rw [hm] at e; cases e
 | some ds =>
  rw [hm] at e; cases e
  refine ⟨F0, H0, F, ρ, ds, r, hm, fun p xs F' H' x hp hF hH rs => ?_⟩
  exact q _ (upd F' p (.lst xs)) H' (x.freeze hF hp hH) (.lst (SqL.of upd_same) (rs.mono ((Same.refl F').put hF)))
theorem pd_pb (h : PD X e ma) : PB X e (aslst ma) := h.imp fun σ H Q hpat => by
 obtain ⟨F0, H0, F, ρ, d, r, e, q⟩ := hpat
 unfold aslst at e
 split at e
 ·rename_i ds hm
  cases e
  refine ⟨F0, H0, F, ρ, _, r, hm, fun v F' H' x rv => ?_⟩
  cases rv with
  | lst s rs => exact q _ _ F' H' x (x.fh.seq s) rs
 ·cases e
theorem pf_pb {m : ML} (h : PF X e m) : PB X e m := h.imp fun σ H Q ⟨F0, H0, F, ρ, d, r, e, q⟩ =>
 ⟨F0, H0, F, ρ, d, r, e, fun p xs F' H' x hp hF hH rs => q p xs F' H' x (SqL.of hH) rs⟩
@[irreducible] def m2 (f : D -> D -> Option D) (x y : ME) : ME := fun ρ => (x ρ).bind fun d => (y ρ).bind fun e => f d e
def OpD (K : W.Frag) (r : R2) (f : D -> D -> Option D) : Prop := ∀ (F H : Hp) (x y : V) (d e g : D) (Q : VK), Same F H -> Rep K F x d -> Rep K F y e -> f d e = some g -> (∀ v F' H', Ext F H F' H' -> Rep K F' v g -> Q v H') -> r x y H Q
theorem m2_some {f : D -> D -> Option D} {ρ : Ro} {g : D} (h : m2 f ma mb ρ = some g) : ∃ d e, ma ρ = some d /\ mb ρ = some e /\ f d e = some g := by
 unfold m2 at h
 cases h1 : ma ρ with
 | none => rw [h1] at h; cases h
 | some d =>
  cases h2 : mb ρ with
  | none => rw [h1, h2] at h; cases h
  | some e => rw [h1, h2] at h; exact ⟨d, e, rfl, rfl, h⟩
theorem op_d {r : R2} {f : D -> D -> Option D} (hf : OpD X.K r f) {σ : St} {H : Hp} {Q : VK} (h : TD X.K (m2 f ma mb) σ H Q) : tOp r (TD X.K ma) (TD X.K mb) σ H Q := by
 obtain ⟨F0, H0, F, ρ, g, rl, e, q⟩ := h
 obtain ⟨d, e', h1, h2, h3⟩ := m2_some e
 refine ⟨F0, H0, F, ρ, d, rl, h1, fun x F1 H1 x1 r1 => ⟨F0, H0, F1, ρ, e', rl.go x1, h2, fun y F2 H2 x2 r2 => ?_⟩⟩
 exact hf F2 H2 x y d e' g Q x2.fh (r1.mono x2.ff) r2 h3 fun v F' H' x3 => q v F' H' ((x1.trans x2).trans x3)
theorem pd_op {op : Operator} {r : R2} {f : D -> D -> Option D} (ho : OpR X (binaryOp op) r) (hf : OpD X.K r f) (ha : PD X a ma) (hb : PD X b mb) : PD X (.BinOp a op b pos) (m2 f ma mb) := (pe_op ho ha hb).imp fun _ _ _ h => op_d hf h
theorem pd_cmp {op : CmpOp} {r : R2} {f : D -> D -> Option D} (ho : OpR X (compareOp op) r) (hf : OpD X.K r f) (ha : PD X a ma) (hb : PD X b mb) (hm : behindInMarks op b = false) : PD X (.Compare a [op] [b] pos) (m2 f ma mb) := (pe_cmpR ho ha hb hm).imp fun _ _ _ h => op_d hf h
def mtest (m : ME) : MB := fun ρ => match m ρ with | some (.bl b) => some b | _ => none
theorem pc_cmp {op : CmpOp} {r : R2} {f : D -> D -> Option D} (ho : OpR X (compareOp op) r) (hf : OpD X.K r f) (ha : PD X a ma) (hb : PD X b mb) (hm : behindInMarks op b = false) : PC' X (.Compare a [op] [b] pos) (mtest (m2 f ma mb)) := (pt_cmpR ho ha hb hm).imp fun σ H Q hpat => by
 obtain ⟨F0, H0, F, ρ, g, rl, e, q⟩ := hpat
 unfold mtest at e
 split at e
 ·rename_i k hk
  cases e
  refine op_d hf ⟨F0, H0, F, ρ, .bl g, rl, hk, fun v F' H' x r => ?_⟩
  cases r
  exact ⟨_, rfl, q F' H' x⟩
 ·cases e
def int2 (g : Int -> Int -> Option D) : D -> D -> Option D
 | .int i, .int j => g i j
 | _, _ => none
theorem int2_inv {g : Int -> Int -> Option D} {d e w : D} (h : int2 g d e = some w) : ∃ i j, d = .int i /\ e = .int j /\ g i j = some w := by
 cases d with
 | int i =>
  cases e with
  | int j => exact ⟨i, j, rfl, rfl, h⟩
  | _ => cases h
 | _ => cases h
theorem opd_rI0 {K : W.Frag} {g : Int -> Int -> V} {g' : Int -> Int -> D} (hg : ∀ F i j, Rep K F (g i j) (g' i j)) : OpD K (rI0 g) (int2 fun i j => some (g' i j)) := by
 intro F H x y d e w Q s r1 r2 h q
 obtain ⟨i, j, rfl, rfl, h'⟩ := int2_inv h
 clear h
 cases h'
 exact ⟨i, j, r1.i', r2.i', q _ F H (.refl s) (hg F i j)⟩
theorem opd_rI {K : W.Frag} {C : Int -> Int -> Prop} {ok : Int -> Int -> Bool} {g : Int -> Int -> V} {g' : Int -> Int -> D} (hC : ∀ i j, ok i j = true -> C i j) (hg : ∀ F i j, Rep K F (g i j) (g' i j)) :
  OpD K (rI C g) (int2 fun i j => if ok i j = true then some (g' i j) else none) := by
 intro F H x y d e w Q s r1 r2 h q
 obtain ⟨i, j, rfl, rfl, h'⟩ := int2_inv h
 clear h
 by_cases hk : ok i j = true
 ·rw [if_pos hk] at h'
  cases h'
  exact ⟨i, j, r1.i', r2.i', hC i j hk, q _ F H (.refl s) (hg F i j)⟩
 ·rw [if_neg hk] at h'
  cases h'
def subD : D -> D -> Option D := int2 fun i j => some (.int (i - j))
def mulOk (i j : Int) : Bool := (decide (-(2 ^ 64) < i) && decide (i < 2 ^ 64)) || (decide (-(2 ^ 64) < j) && decide (j < 2 ^ 64))
def mulD : D -> D -> Option D := int2 fun i j => if mulOk i j = true then some (.int (i * j)) else none
def fdivOk (_ j : Int) : Bool := decide (0 < j) && decide (j < 1073741824)
def fdivD : D -> D -> Option D := int2 fun i j => if fdivOk i j = true then some (.int (i / j)) else none
def modOk (_ j : Int) : Bool := decide (0 < j)
def modD : D -> D -> Option D := int2 fun i j => if modOk i j = true then some (.int (i % j)) else none
def powOk (i j : Int) : Bool := decide (0 <= j) && decide (j <= 1000000) && decide (i.natAbs < 2 ^ 64)
def powD : D -> D -> Option D := int2 fun i j => if powOk i j = true then some (.int (i ^ j.toNat)) else none
def shlD : D -> D -> Option D := int2 fun i j => if powOk i j = true then some (.int (i * 2 ^ j.toNat)) else none
def shrOk (_ j : Int) : Bool := decide (0 <= j)
def shrD : D -> D -> Option D := int2 fun i j => if shrOk i j = true then some (.int (i / 2 ^ j.toNat)) else none
def andD : D -> D -> Option D := int2 fun i j => some (.int (Builtin.bitAnd i j))
def ltD : D -> D -> Option D := int2 fun i j => some (.bl (decide (i < j)))
def leD : D -> D -> Option D := int2 fun i j => some (.bl (decide (i <= j)))
def gtD : D -> D -> Option D := int2 fun i j => some (.bl (decide (j < i)))
def geD : D -> D -> Option D := int2 fun i j => some (.bl (decide (j <= i)))
theorem opd_sub {K : W.Frag} : OpD K (rI0 fun i j => .int (i - j)) subD := opd_rI0 fun F i j => .int _
theorem opd_mul {K : W.Frag} : OpD K (rI CMul fun i j => .int (i * j)) mulD := opd_rI (fun i j h => by
 unfold mulOk at h
 simp only [Bool.or_eq_true, Bool.and_eq_true, decide_eq_true_eq] at h
 exact h) fun F i j => .int _
theorem opd_fdiv {K : W.Frag} : OpD K (rI CDiv fun i j => .int (i / j)) fdivD := opd_rI (fun i j h => by
 unfold fdivOk at h
 simp only [Bool.and_eq_true, decide_eq_true_eq] at h
 exact h) fun F i j => .int _
theorem opd_mod {K : W.Frag} : OpD K (rI (fun _ j => 0 < j) fun i j => .int (i % j)) modD := opd_rI (fun i j h => of_decide_eq_true h) fun F i j => .int _
theorem opd_pow {K : W.Frag} : OpD K (rI CPow fun i j => .int (i ^ j.toNat)) powD := opd_rI (fun i j h => by
 unfold powOk at h
 simp only [Bool.and_eq_true, decide_eq_true_eq] at h
 exact ⟨h.1.1, h.1.2, h.2⟩) fun F i j => .int _
theorem opd_shl {K : W.Frag} : OpD K (rI CPow fun i j => .int (i * 2 ^ j.toNat)) shlD := opd_rI (fun i j h => by
 unfold powOk at h
 simp only [Bool.and_eq_true, decide_eq_true_eq] at h
 exact ⟨h.1.1, h.1.2, h.2⟩) fun F i j => .int _
theorem opd_shr {K : W.Frag} : OpD K (rI (fun _ j => 0 <= j) fun i j => .int (i / 2 ^ j.toNat)) shrD := opd_rI (fun i j h => of_decide_eq_true h) fun F i j => .int _
theorem opd_and {K : W.Frag} : OpD K (rI0 fun i j => .int (Builtin.bitAnd i j)) andD := opd_rI0 fun F i j => .int _
theorem opd_lt {K : W.Frag} : OpD K (rI0 fun i j => .bl (decide (i < j))) ltD := opd_rI0 fun F i j => .bl _
theorem opd_le {K : W.Frag} : OpD K (rI0 fun i j => .bl (decide (i <= j))) leD := opd_rI0 fun F i j => .bl _
theorem opd_gt {K : W.Frag} : OpD K (rI0 fun i j => .bl (decide (j < i))) gtD := opd_rI0 fun F i j => .bl _
theorem opd_ge {K : W.Frag} : OpD K (rI0 fun i j => .bl (decide (j <= i))) geD := opd_rI0 fun F i j => .bl _
def eqS : D -> D -> Option Bool
 | .non, .non => some true | .non, .int _ => some false | .int _, .non => some false | .non, .bl _ => some false | .bl _, .non => some false | .non, .str _ => some false | .str _, .non => some false
 | .int i, .int j => some (i == j) | .bl i, .bl j => some (i == j) | .str i, .str j => some (i == j)
 | .int _, .str _ => some false | .str _, .int _ => some false | .bl _, .str _ => some false | .str _, .bl _ => some false
 | _, _ => none
def eqSD (d e : D) : Option D := (eqS d e).map .bl
def neSD (d e : D) : Option D := (eqS d e).map fun b => .bl (!b)
def scV : D -> V
 | .bl b => .bl b | .int i => .int i | .str x => .str x | _ => .non
theorem eqS_inv {d e : D} {k : Bool} (h : eqS d e = some k) : scal (scV d) (scV e) = true /\ decide (scV d = scV e) = k := by
 cases d with
 | non => cases e <;> cases h <;> exact ⟨rfl, rfl⟩
 | bl i =>
  cases e <;> cases h
  ·exact ⟨rfl, rfl⟩
  ·exact ⟨rfl, dec_bl⟩
  ·exact ⟨rfl, rfl⟩
 | int i =>
  cases e <;> cases h
  ·exact ⟨rfl, rfl⟩
  ·exact ⟨rfl, dec_int⟩
  ·exact ⟨rfl, rfl⟩
 | str i =>
  cases e <;> cases h
  ·exact ⟨rfl, rfl⟩
  ·exact ⟨rfl, rfl⟩
  ·exact ⟨rfl, rfl⟩
  ·exact ⟨rfl, dec_str⟩
 | _ => cases h
theorem eqS_l {d e : D} {k : Bool} (h : eqS d e = some k) {K : W.Frag} {F : Hp} {x : V} (r : Rep K F x d) : x = scV d := by
 cases d with
 | non => exact r.n'
 | bl i => exact r.b'
 | int i => exact r.i'
 | str i => exact r.s'
 | _ => cases h
theorem eqS_sym (d e : D) (k : Bool) (h : eqS d e = some k) : ∃ k', eqS e d = some k' := by
 cases d with
 | non => cases e <;> cases h <;> exact ⟨_, rfl⟩
 | bl i => cases e <;> cases h <;> exact ⟨_, rfl⟩
 | int i => cases e <;> cases h <;> exact ⟨_, rfl⟩
 | str i => cases e <;> cases h <;> exact ⟨_, rfl⟩
 | _ => cases h
theorem opd_eqS {K : W.Frag} : OpD K rEq eqSD := by
 intro F H x y d e w Q s r1 r2 h q
 unfold eqSD at h
 cases hk : eqS d e with
 | none => rw [hk] at h; cases h
 | some k =>
  rw [hk] at h
  cases h
  obtain ⟨k', hk'⟩ := eqS_sym d e k hk
  obtain ⟨h1, h2⟩ := eqS_inv hk
  rw [eqS_l hk r1, eqS_l hk' r2]
  refine ⟨h1, ?_⟩
  rw [h2]
  exact q _ F H (.refl s) (.bl _)
theorem opd_neS {K : W.Frag} : OpD K rNe neSD := by
 intro F H x y d e w Q s r1 r2 h q
 unfold neSD at h
 cases hk : eqS d e with
 | none => rw [hk] at h; cases h
 | some k =>
  rw [hk] at h
  cases h
  obtain ⟨k', hk'⟩ := eqS_sym d e k hk
  obtain ⟨h1, h2⟩ := eqS_inv hk
  rw [eqS_l hk r1, eqS_l hk' r2]
  refine ⟨h1, ?_⟩
  rw [h2]
  exact q _ F H (.refl s) (.bl _)
def m1 (f : D -> Option D) (x : ME) : ME := fun ρ => (x ρ).bind f
def negD : D -> Option D
 | .int i => some (.int (-i))
 | _ => none
theorem m1_some {f : D -> Option D} {ρ : Ro} {g : D} (h : m1 f ma ρ = some g) : ∃ d, ma ρ = some d /\ f d = some g := by
 unfold m1 at h
 cases h1 : ma ρ with
 | none => rw [h1] at h; cases h
 | some d => rw [h1] at h; exact ⟨d, rfl, h⟩
theorem pd_neg (ha : PD X a ma) : PD X (.UnaryOp .USub a pos) (m1 negD ma) := (pe_un un_neg ha).imp fun σ H Q hpat => by
 obtain ⟨F0, H0, F, ρ, g, rl, e, q⟩ := hpat
 obtain ⟨d, h1, h2⟩ := m1_some e
 refine ⟨F0, H0, F, ρ, d, rl, h1, fun x F1 H1 x1 r1 => ?_⟩
 cases r1 <;> first | (cases h2; done) | skip
 cases h2
 exact ⟨_, rfl, q _ F1 H1 x1 (.int _)⟩
def notD : D -> Option D
 | .bl b => some (.bl (!b))
 | _ => none
theorem pd_not (ha : PD X a ma) : PD X (.UnaryOp .Not a pos) (m1 notD ma) := (pe_not ha).imp fun σ H Q hpat => by
 obtain ⟨F0, H0, F, ρ, g, rl, e, q⟩ := hpat
 obtain ⟨d, h1, h2⟩ := m1_some e
 refine ⟨F0, H0, F, ρ, d, rl, h1, fun x F1 H1 x1 r1 => ?_⟩
 cases r1 <;> first | (cases h2; done) | skip
 cases h2
 exact ⟨_, rfl, q _ F1 H1 x1 (.bl _)⟩
def mand (x y : ME) : ME := fun ρ => match x ρ with | some (.bl true) => y ρ | some (.bl false) => some (.bl false) | _ => none
theorem pd_one {op} (h : PD X a ma) : PD X (.BoolOp op [a] pos) ma := pe_one h
theorem pd_and {rest : List Expr} (ha : PD X a ma) (hb : PD X (.BoolOp .And (b :: rest) pos) mb) : PD X (.BoolOp .And (a :: b :: rest) pos) (mand ma mb) := (pe_and ha hb).imp fun σ H Q hpat => by
 obtain ⟨F0, H0, F, ρ, g, rl, e, q⟩ := hpat
 unfold mand at e
 split at e
 ·rename_i h1
  refine ⟨F0, H0, F, ρ, _, rl, h1, fun x F1 H1 x1 r1 => ?_⟩
  cases r1
  refine ⟨true, rfl, ?_⟩
  refine iteT ?_
  exact ⟨F0, H0, F1, ρ, g, rl.go x1, e, fun y F2 H2 x2 r2 => q y F2 H2 (x1.trans x2) r2⟩
 ·rename_i h1
  cases e
  refine ⟨F0, H0, F, ρ, _, rl, h1, fun x F1 H1 x1 r1 => ?_⟩
  cases r1
  refine ⟨false, rfl, ?_⟩
  refine iteF ?_
  exact q _ F1 H1 x1 (.bl _)
 ·cases e
def truD : D -> Option Bool
 | .non => some false
 | .bl b => some b
 | .int i => some (i != 0)
 | .str y => if y.length <= sizeLine then some ((y.length : Int) != 0) else none
 | .lst ds => some (!ds.isEmpty)
 | .tup ds => some (!ds.isEmpty)
 | .exc _ => none
 | .ptr _ => none
 | .obj _ _ _ => none
def mtru (m : ME) : MB := fun ρ => (m ρ).bind truD
theorem isEmpty_reps {K : W.Frag} {F : Hp} {vs : List V} {ds : List D} (h : Reps K F vs ds) : (!ds.isEmpty) = !vs.isEmpty := by cases h <;> rfl
theorem pc_tru (ha : PD X a ma) (he : ∀ whole, isTrue a X.env whole = (do let v ← whole; standAt a.pos; holding [v] (truthy v)) := by intro _; rfl) : PC' X a (mtru ma) := (pt_truth ha he).imp fun σ H Q hpat => by
 obtain ⟨F0, H0, F, ρ, b, rl, e, q⟩ := hpat
 unfold mtru at e
 cases h1 : ma ρ with
 | none => rw [h1] at e; cases e
 | some d =>
  rw [h1] at e
  refine ⟨F0, H0, F, ρ, d, rl, h1, fun x F1 H1 x1 r1 => ⟨b, ?_, q F1 H1 x1⟩⟩
  cases r1 with
  | non => cases e; rfl
  | bl => cases e; rfl
  | int => cases e; rfl
  | str x =>
   have e : (if x.length <= sizeLine then some ((x.length : Int) != 0) else none) = some b := e
   split at e
   ·rename_i hz
    cases e
    exact ⟨hz, rfl⟩
   ·cases e
  | lst s rs => cases e; exact .inl ⟨_, x1.fh.seq s, isEmpty_reps rs⟩
  | tup s rs => cases e; exact .inr (.inl ⟨_, x1.fh.seqT s, isEmpty_reps rs⟩)
  | exc => cases e
  | ptr => cases e
  | obj => cases e
variable {ca cb : MB}
def cand (x y : MB) : MB := fun ρ => match x ρ with | some true => y ρ | some false => some false | none => none
def cor (x y : MB) : MB := fun ρ => match x ρ with | some true => some true | some false => y ρ | none => none
def cnot (x : MB) : MB := fun ρ => (x ρ).map (!·)
theorem pc_w (h : PCw X a ca) : PC' X a ca := h.pt
theorem pw1_and (h : PC' X a ca) : PCw X (.BoolOp .And [a] pos) ca := pw_and1 h
theorem pw1_or (h : PC' X a ca) : PCw X (.BoolOp .Or [a] pos) ca := pw_or1 h
theorem pcw_and {rest : List Expr} (ha : PC' X a ca) (hb : PCw X (.BoolOp .And (b :: rest) pos) cb) : PCw X (.BoolOp .And (a :: b :: rest) pos) (cand ca cb) := (pw_and ha hb).imp fun σ H Q hpat => by
 obtain ⟨F0, H0, F, ρ, g, rl, e, q⟩ := hpat
 unfold cand at e
 split at e
 ·rename_i h1
  refine ⟨F0, H0, F, ρ, _, rl, h1, fun F1 H1 x1 => ?_⟩
  refine iteT ?_
  exact ⟨F0, H0, F1, ρ, g, rl.go x1, e, fun F2 H2 x2 => q F2 H2 (x1.trans x2)⟩
 ·rename_i h1
  cases e
  refine ⟨F0, H0, F, ρ, _, rl, h1, fun F1 H1 x1 => ?_⟩
  refine iteF ?_
  exact q F1 H1 x1
 ·cases e
theorem pcw_or {rest : List Expr} (ha : PC' X a ca) (hb : PCw X (.BoolOp .Or (b :: rest) pos) cb) : PCw X (.BoolOp .Or (a :: b :: rest) pos) (cor ca cb) := (pw_or ha hb).imp fun σ H Q hpat => by
 obtain ⟨F0, H0, F, ρ, g, rl, e, q⟩ := hpat
 unfold cor at e
 split at e
 ·rename_i h1
  cases e
  refine ⟨F0, H0, F, ρ, _, rl, h1, fun F1 H1 x1 => ?_⟩
  refine iteT ?_
  exact q F1 H1 x1
 ·rename_i h1
  refine ⟨F0, H0, F, ρ, _, rl, h1, fun F1 H1 x1 => ?_⟩
  refine iteF ?_
  exact ⟨F0, H0, F1, ρ, g, rl.go x1, e, fun F2 H2 x2 => q F2 H2 (x1.trans x2)⟩
 ·cases e
theorem pc_not (ha : PC' X a ca) : PC' X (.UnaryOp .Not a pos) (cnot ca) := (pt_not ha).imp fun σ H Q hpat => by
 obtain ⟨F0, H0, F, ρ, g, rl, e, q⟩ := hpat
 unfold cnot at e
 cases h1 : ca ρ with
 | none => rw [h1] at e; cases e
 | some k =>
  rw [h1] at e; cases e
  exact ⟨F0, H0, F, ρ, k, rl, h1, fun F1 H1 x1 => q F1 H1 x1⟩
def anil : ML := fun _ => some []
@[irreducible] def acons (x : ME) (r : ML) : ML := fun ρ => (x ρ).bind fun d => (r ρ).bind fun ds => some (d :: ds)
theorem acons_some {r : ML} {ρ : Ro} {gs : List D} (h : acons ma r ρ = some gs) : ∃ d ds, ma ρ = some d /\ r ρ = some ds /\ gs = d :: ds := by
 unfold acons at h
 cases h1 : ma ρ with
 | none => rw [h1] at h; cases h
 | some d =>
  cases h2 : r ρ with
  | none => rw [h1, h2] at h; cases h
  | some ds => rw [h1, h2] at h; cases h; exact ⟨d, ds, rfl, rfl, rfl⟩
theorem pas_nil : PAs X [] anil := pa_nil.imp fun σ H Q hpat => by
 obtain ⟨F0, H0, F, ρ, g, rl, e, q⟩ := hpat
 cases e; exact q [] F H (.refl rl.fh) .nil
theorem pas_cons {es : List Expr} {m : ML} (ha : PD X a ma) (hr : PAs X es m) (hs : starEach (a :: es) X.env = (false, eval a X.env) :: starEach es X.env := by rfl) : PAs X (a :: es) (acons ma m) := (pa_cons ha hr hs).imp fun σ H Q hpat => by
 obtain ⟨F0, H0, F, ρ, g, rl, e, q⟩ := hpat
 obtain ⟨d, ds, h1, h2, rfl⟩ := acons_some e
 refine ⟨F0, H0, F, ρ, d, rl, h1, fun x F1 H1 x1 r1 => ⟨F0, H0, F1, ρ, ds, rl.go x1, h2, fun xs F2 H2 x2 r2 => ?_⟩⟩
 exact q _ F2 H2 (x1.trans x2) (.cons (r1.mono x2.ff) r2)
@[irreducible] def sized (m : ML) : ML := fun ρ => match m ρ with | some ds => if ds.length <= sizeLine then some ds else none | none => none
theorem sized_some {m : ML} {ρ : Ro} {gs : List D} (h : sized m ρ = some gs) : m ρ = some gs /\ gs.length <= sizeLine := by
 unfold sized at h
 cases h1 : m ρ with
 | none => rw [h1] at h; cases h
 | some ds =>
  rw [h1] at h
  have h : (if ds.length <= sizeLine then some ds else none) = some gs := h
  split at h
  ·rename_i hz; cases h; exact ⟨rfl, hz⟩
  ·cases h
theorem pf_lst {es : List Expr} {m : ML} (h : PAs X es m) : PF X (.List es pos) (sized m) := (pe_lst h).imp fun σ H Q hpat => by
 obtain ⟨F0, H0, F, ρ, g, rl, e, q⟩ := hpat
 obtain ⟨h1, h2⟩ := sized_some e
 refine ⟨F0, H0, F, ρ, g, rl, h1, fun vs F1 H1 x1 r1 => ⟨by rw [r1.length]; exact h2, fun p hp => ?_⟩⟩
 exact q p vs F1 _ (x1.trans (Ext.own x1.fh hp)) (x1.hh.free hp) (x1.fh.free hp) upd_same r1
def mtup (m : ML) : ME := fun ρ => (sized m ρ).map .tup
theorem pd_tup {es : List Expr} {m : ML} {k : Nat} (h : PAs X es m) : PD X (.Tuple es k pos) (mtup m) := (pe_tup h).imp fun σ H Q hpat => by
 obtain ⟨F0, H0, F, ρ, g, rl, e, q⟩ := hpat
 unfold mtup at e
 cases h1 : sized m ρ with
 | none => rw [h1] at e; cases e
 | some ds =>
  rw [h1] at e; cases e
  obtain ⟨h1, h2⟩ := sized_some h1
  refine ⟨F0, H0, F, ρ, ds, rl, h1, fun vs F1 H1 x1 r1 => ⟨by rw [r1.length]; exact h2, fun p hp => ?_⟩⟩
  exact q _ _ _ (x1.trans (Ext.laid x1.fh hp)) (.tup (SqT.of upd_same) (r1.mono ((Same.refl F1).put (x1.fh.free hp))))
def mlen (m : ML) : ME := fun ρ => (m ρ).map fun ds => .int ds.length
@[irreducible] def mix (m : ML) (i : ME) : ME := fun ρ => (m ρ).bind fun ds => (i ρ).bind fun | .int k => atI ds k | _ => none
theorem atI_reps {K : W.Frag} {F : Hp} {vs : List V} {ds : List D} {k : Int} {d : D} (r : Reps K F vs ds) (h : atI ds k = some d) : ∃ v, atI vs k = some v /\ Rep K F v d := by
 unfold atI at h ⊢
 rw [r.length]
 cases q : ixN ds.length k with
 | none => rw [q] at h; cases h
 | some j =>
  rw [q] at h
  exact r.get h
theorem pd_ix {ml : ML} (ha : PB X a ml) (hb : PD X b mb) (hs : PlainIx b := by exact fun _ _ => rfl) : PD X (.Subscript a b pos) (mix ml mb) := (pe_ix ix_list ha hb hs).imp fun σ H Q hpat => by
 obtain ⟨F0, H0, F, ρ, g, rl, e, q⟩ := hpat
 unfold mix at e
 cases h1 : ml ρ with
 | none => rw [h1] at e; cases e
 | some ds =>
  cases h2 : mb ρ with
  | none => rw [h1, h2] at e; cases e
  | some i =>
   rw [h1, h2] at e
   refine ⟨F0, H0, F, ρ, ds, rl, h1, fun p xs F1 H1 x1 s1 r1 => ⟨F0, H0, F1, ρ, i, rl.go x1, h2, fun y F2 H2 x2 r2 => ?_⟩⟩
   cases r2 <;> first | (cases e; done) | skip
   rename_i k
   obtain ⟨v, h3, h4⟩ := atI_reps (r1.mono x2.ff) (show atI ds k = some g from e)
   exact ⟨p, xs, k, v, rfl, rfl, x2.hh.seq s1, h3, q v F2 H2 (x1.trans x2) h4⟩
theorem cut_reps {K : W.Frag} {F : Hp} {vs : List V} {ds : List D} (r : Reps K F vs ds) (lo hi : Option Int) : Reps K F (cutV vs lo hi) ((ds.drop (HT.sIx ds.length 0 lo)).take (HT.sIx ds.length ds.length hi - HT.sIx ds.length 0 lo)) := by
 unfold cutV
 rw [r.length]
 exact (r.drop _).take _
def cutL (ds : List D) (lo hi : Option Int) : List D := (ds.drop (HT.sIx ds.length 0 lo)).take (HT.sIx ds.length ds.length hi - HT.sIx ds.length 0 lo)
abbrev MO := Ro -> Option (Option Int)
def onone : MO := fun _ => some none
def osome (m : ME) : MO := fun ρ => (m ρ).bind fun | .int i => some (some i) | _ => none
def TOs (K : W.Frag) (m : MO) : TO := fun σ H Q => ∃ F0 H0 F ρ i, Rl K F0 H0 F H σ ρ /\ m ρ = some i /\ ∀ F' H', Ext F H F' H' -> Q i H'
def POs (X : Cx) (e : Option Expr) (m : MO) : Prop := PO X e (TOs X.K m)
theorem PO.imp {e : Option Expr} {t t' : TO} (h : PO X e t) (i : ∀ σ H Q, t' σ H Q -> t σ H Q) : PO X e t' := fun pins s σ H Q I q => h pins s σ H Q I (i σ H Q q)
theorem pos_none : POs X none onone := PO.imp po_none fun σ H Q hpat => by obtain ⟨F0, H0, F, ρ, i, rl, e, q⟩ := hpat; cases e; exact q F H (.refl rl.fh)
theorem pos_some (h : PD X a ma) : POs X (some a) (osome ma) := PO.imp (po_some h) fun σ H Q hpat => by
 obtain ⟨F0, H0, F, ρ, i, rl, e, q⟩ := hpat
 unfold osome at e
 cases h1 : ma ρ with
 | none => rw [h1] at e; cases e
 | some d =>
  rw [h1] at e
  refine ⟨F0, H0, F, ρ, d, rl, h1, fun v F1 H1 x1 r1 => ?_⟩
  cases r1 <;> first | (cases e; done) | skip
  cases e
  exact ⟨_, rfl, q F1 H1 x1⟩
@[irreducible] def mcut (m : ML) (lo hi : MO) : ML := fun ρ => (m ρ).bind fun ds => (lo ρ).bind fun l => (hi ρ).bind fun h => some (cutL ds l h)
theorem pf_cut {ml : ML} {lo hi : Option Expr} {l h : MO} (ha : PB X a ml) (hl : POs X lo l) (hh : POs X hi h) (hE : PE X e (tSl (rSlL X.K) (TB X.K ml) (TOs X.K l) (TOs X.K h))) : PF X e (mcut ml l h) := hE.imp fun σ H Q hpat => by
 obtain ⟨F0, H0, F, ρ, g, rl, e, q⟩ := hpat
 unfold mcut at e
 cases h1 : ml ρ with
 | none => rw [h1] at e; cases e
 | some ds =>
  cases h2 : l ρ with
  | none => rw [h1, h2] at e; cases e
  | some i =>
   cases h3 : h ρ with
   | none => rw [h1, h2, h3] at e; cases e
   | some j =>
    rw [h1, h2, h3] at e; cases e
    refine ⟨F0, H0, F, ρ, ds, rl, h1, fun p xs F1 H1 x1 s1 r1 => ⟨F0, H0, F1, ρ, i, rl.go x1, h2, fun F2 H2 x2 => ⟨F0, H0, F2, ρ, j, (rl.go x1).go x2, h3, fun F3 H3 x3 => ?_⟩⟩⟩
    refine ⟨p, xs, rfl, x3.hh.seq (x2.hh.seq s1), fun w hw => ?_⟩
    have xx := (x1.trans x2).trans x3
    exact q w _ F3 _ (xx.trans (Ext.own x3.fh hw)) (xx.hh.free hw) (x3.fh.free hw) upd_same (cut_reps (r1.mono (x2.ff.trans x3.ff)) i j)
end
end
section
theorem list_add_any (l : Addr) (items : Array Value) (n : Nat) (b : Addr) (items2 : Array Value) (n2 : Nat) (dd dd2 : Option Addr) (sl sl2 : Array (Option Value)) (hc0 : items.size + items2.size <= sizeLine) :
  Meets (Builtin.«list.__add__» ⟨[.ref l, .ref b], []⟩) (fun _ R s => s.heap.get? l = some { cls := .type "list", dict := dd, data := .seq items n, slots := sl } /\ s.heap.get? b = some { cls := .type "list", dict := dd2, data := .seq items2 n2, slots := sl2 } /\ R (.ok (.ret (Value.ref s.heap.objs.size))) { s with heap := s.heap.push { cls := Value.type "list", data := Data.seq (items ++ items2) }, toks := s.toks }) :=
 .of_wp fun prog w A R s h => by obtain ⟨hp, g, d, tk, os⟩ := s; obtain ⟨hl, hb, h⟩ := h; have f1 := AutoSeq1.idx_int; have f2 := AutoSeq1.sub_tuple_tuple; have f3 := AutoSeq1.sub_list_list; have f4 := AutoSeq1.sub_tuple_list; have f5 := AutoSeq1.sub_list_tuple; wp_walk using AutoSeq1.wpAny_loadPart' hl, AutoSeq1.wpAny_loadPart' hb; exact ⟨_, rfl, h⟩
section
variable {X : Cx} {a b c e : Expr} {ma mb : ME} {pos : Pos}
def rCatS (K : W.Frag) : R2 := fun x y H Q => ∃ l b xs zs, x = .ref l /\ y = .ref b /\ SqL K H l xs /\ SqL K H b zs /\ xs.length + zs.length <= sizeLine /\ ∀ p, H p = none -> Q (.ref p) (upd H p (.lst (xs ++ zs)))
theorem op_catS : OpR X (binaryOp .Add) (rCatS X.K) := by
 intro pins s σ H x y v u Q I rx ry h
 obtain ⟨l, b, xs, zs, rfl, rfl, hH, hB, hz, q⟩ := h
 cases rx
 cases ry
 obtain ⟨its, r, ⟨⟨cl, dd, dt, sl⟩, n, e, hc, hd, hs⟩, z⟩ := I.list hH
 obtain ⟨its2, r2, ⟨⟨cl2, dd2, dt2, sl2⟩, n2, e2, hc2, hd2, hs2⟩, z2⟩ := I.list hB
 simp only at hc hd hs hc2 hd2 hs2
 subst hc hd hs hc2 hd2 hs2
 have l1 := r.length
 have l2 := r2.length
 refine concat_meets (T := "list") ⟨_, e, rfl⟩ ⟨_, e2, rfl⟩ PySem.noFill_list_add PySem.seq_list_add F.slot_list_add F.entry_list_add (F.args_list_add_2 _ _) (list_add_any l its.toArray n b its2.toArray n2 none none sl sl2 (by rw [size_toArray, size_toArray]; omega)) ⟨e, e2, ?_⟩
 have ea : its.toArray ++ its2.toArray = (its ++ its2).toArray := by simp
 rw [ea]
 exact ⟨.ref _, _, I.lnew (t' := s.toks) (r.append r2) (by rw [length_append]; omega), rfl, q _ I.fresh⟩
@[irreducible] def mcat (x y : ML) : ML := fun ρ => (x ρ).bind fun ds => (y ρ).bind fun es => if ds.length + es.length <= sizeLine then some (ds ++ es) else none
theorem mcat_some {x y : ML} {ρ : Ro} {gs : List D} (h : mcat x y ρ = some gs) : ∃ ds es, x ρ = some ds /\ y ρ = some es /\ ds.length + es.length <= sizeLine /\ gs = ds ++ es := by
 unfold mcat at h
 cases h1 : x ρ with
 | none => rw [h1] at h; cases h
 | some ds =>
  cases h2 : y ρ with
  | none => rw [h1, h2] at h; cases h
  | some es =>
   rw [h1, h2] at h
   have h : (if ds.length + es.length <= sizeLine then some (ds ++ es) else none) = some gs := h
   split at h
   ·rename_i hz; cases h; exact ⟨ds, es, rfl, rfl, hz, rfl⟩
   ·cases h
theorem pf_cat {x y : ML} (ha : PB X a x) (hb : PB X b y) : PF X (.BinOp a .Add b pos) (mcat x y) := (pe_op op_catS ha hb).imp fun σ H Q hpat => by
 obtain ⟨F0, H0, F, ρ, g, rl, e, q⟩ := hpat
 obtain ⟨ds, es, h1, h2, hz, rfl⟩ := mcat_some e
 refine ⟨F0, H0, F, ρ, ds, rl, h1, fun p xs F1 H1 x1 s1 r1 => ⟨F0, H0, F1, ρ, es, rl.go x1, h2, fun p2 ys F2 H2 x2 s2 r2 => ?_⟩⟩
 refine ⟨p, p2, xs, ys, rfl, rfl, x2.hh.seq s1, s2, by rw [r1.length, r2.length]; exact hz, fun w hw => ?_⟩
 have xx := x1.trans x2
 exact q w _ F2 _ (xx.trans (Ext.own x2.fh hw)) (xx.hh.free hw) (x2.fh.free hw) upd_same ((r1.mono x2.ff).append r2)
def addD : D -> D -> Option D
 | .int i, .int j => some (.int (i + j))
 | .lst ds, .lst es => if ds.length + es.length <= sizeLine then some (.lst (ds ++ es)) else none
 | _, _ => none
theorem opd_add {K : W.Frag} : OpD K (fun x y H Q => (rI0 fun i j => V.int (i + j)) x y H Q \/ rCatS K x y H Q) addD := by
 intro F H x y d e w Q s r1 r2 h q
 cases d with
 | int i =>
  cases e with
  | int j =>
   cases h
   exact .inl ⟨_, _, r1.i', r2.i', q _ F H (.refl s) (.int _)⟩
  | _ => cases h
 | lst ds1 =>
  cases e with
  | lst ds2 =>
   obtain ⟨p1, xs1, e1, s1, t1⟩ := r1.l'
   obtain ⟨p2, xs2, e2, s2, t2⟩ := r2.l'
   have h : (if ds1.length + ds2.length <= sizeLine then some (D.lst (ds1 ++ ds2)) else none) = some w := h
   by_cases hz : ds1.length + ds2.length <= sizeLine
   ·rw [if_pos hz] at h
    cases h
    refine .inr ⟨_, _, _, _, e1, e2, s.seq s1, s.seq s2, by rw [t1.length, t2.length]; exact hz, fun p hp => ?_⟩
    exact q _ _ _ (Ext.laid s hp) (.lst (SqL.of upd_same) ((t1.append t2).mono ((Same.refl F).put (s.free hp))))
   ·rw [if_neg hz] at h; cases h
  | _ => cases h
 | _ => cases h
theorem pd_add (ha : PD X a ma) (hb : PD X b mb) : PD X (.BinOp a .Add b pos) (m2 addD ma mb) := pd_op (OpR.or op_add op_catS) opd_add ha hb
theorem pd_sub (ha : PD X a ma) (hb : PD X b mb) : PD X (.BinOp a .Sub b pos) (m2 subD ma mb) := pd_op op_sub opd_sub ha hb
theorem pd_mul (ha : PD X a ma) (hb : PD X b mb) : PD X (.BinOp a .Mult b pos) (m2 mulD ma mb) := pd_op op_mul opd_mul ha hb
theorem pd_fdiv (ha : PD X a ma) (hb : PD X b mb) : PD X (.BinOp a .FloorDiv b pos) (m2 fdivD ma mb) := pd_op op_fdiv opd_fdiv ha hb
theorem pd_mod (ha : PD X a ma) (hb : PD X b mb) : PD X (.BinOp a .Mod b pos) (m2 modD ma mb) := pd_op op_mod opd_mod ha hb
theorem pd_pow (ha : PD X a ma) (hb : PD X b mb) : PD X (.BinOp a .Pow b pos) (m2 powD ma mb) := pd_op op_pow opd_pow ha hb
theorem pd_shl (ha : PD X a ma) (hb : PD X b mb) : PD X (.BinOp a .LShift b pos) (m2 shlD ma mb) := pd_op op_shl opd_shl ha hb
theorem pd_shr (ha : PD X a ma) (hb : PD X b mb) : PD X (.BinOp a .RShift b pos) (m2 shrD ma mb) := pd_op op_shr opd_shr ha hb
theorem pd_band (ha : PD X a ma) (hb : PD X b mb) : PD X (.BinOp a .BitAnd b pos) (m2 andD ma mb) := pd_op op_and opd_and ha hb
@[irreducible] def call1 (f : List D -> Option D) (m : ML) : ME := fun ρ => (m ρ).bind f
def CallD (K : W.Frag) (r : List V -> Hp -> VK -> Prop) (f : List D -> Option D) : Prop := ∀ (F H : Hp) (vs : List V) (ds : List D) (g : D) (Q : VK), Same F H -> Reps K F vs ds -> f ds = some g -> (∀ v F' H', Ext F H F' H' -> Rep K F' v g -> Q v H') -> r vs H Q
theorem call_d {r : List V -> Hp -> VK -> Prop} {f : List D -> Option D} {m : ML} (hf : CallD X.K r f) {σ : St} {H : Hp} {Q : VK} (h : TD X.K (call1 f m) σ H Q) : tCB r (TAs X.K m) σ H Q := by
 obtain ⟨F0, H0, F, ρ, g, rl, e, q⟩ := h
 unfold call1 at e
 cases h1 : m ρ with
 | none => rw [h1] at e; cases e
 | some ds =>
  rw [h1] at e
  exact ⟨F0, H0, F, ρ, ds, rl, h1, fun vs F1 H1 x1 r1 => hf F1 H1 vs ds g Q x1.fh r1 e fun v F' H' x2 => q v F' H' (x1.trans x2)⟩
def lenF : List D -> Option D
 | [.lst ds] => some (.int ds.length)
 | [.tup ds] => some (.int ds.length)
 | [.str x] => if x.length <= sizeLine then some (.int x.length) else none
 | _ => none
theorem calld_len {K : W.Frag} : CallD K (fun xs H Q => (∃ p ys, xs = [.ref p] /\ (SqL K H p ys \/ SqT K H p ys) /\ Q (.int ys.length) H) \/ (∃ z, xs = [.str z] /\ z.length <= sizeLine /\ Q (.int z.length) H)) lenF := by
 intro F H vs ds g Q s r h q
 cases r with
 | nil => cases h
 | cons r rr =>
  cases rr with
  | cons _ _ => revert h; unfold lenF; intro h; split at h <;> simp_all
  | nil =>
   cases r with
   | lst s1 t1 => cases h; exact .inl ⟨_, _, rfl, .inl (s.seq s1), by rw [t1.length]; exact q _ F H (.refl s) (.int _)⟩
   | tup s1 t1 => cases h; exact .inl ⟨_, _, rfl, .inr (s.seqT s1), by rw [t1.length]; exact q _ F H (.refl s) (.int _)⟩
   | str x =>
    have h : (if x.length <= sizeLine then some (D.int x.length) else none) = some g := h
    split at h
    ·rename_i hz; cases h; exact .inr ⟨_, rfl, hz, q _ F H (.refl s) (.int _)⟩
    ·cases h
   | _ => cases h
theorem pd_len {e : Expr} {p : Pos} {m : ML} (hg : Gl X "len") (hm : X.mg "len" = none) (ha : PAs X [e] m) (he : starEach [e] X.env = (false, eval e X.env) :: starEach [] X.env := by rfl) (hpl : (backTo pos (starEach [] X.env)).any (·.1) = false := by rfl) : PD X (.Call (.Name "len" p) [e] [] pos) (call1 lenF m) :=
 (pe_callB (CallR.or call_len_seq call_len_str) hg hm PySem.boot_len ha (by decide) (by decide) he hpl).imp fun _ _ _ h => call_d calld_len h
theorem pd_lenB {e : Expr} {p : Pos} {m : ML} (hg : Gl X "len") (hm : X.mg "len" = none) (ha : PB X e m) (hs : starEach (e :: []) X.env = (false, eval e X.env) :: starEach [] X.env := by rfl) (he : starEach [e] X.env = (false, eval e X.env) :: starEach [] X.env := by rfl) (hpl : (backTo pos (starEach [] X.env)).any (·.1) = false := by rfl) : PD X (.Call (.Name "len" p) [e] [] pos) (mlen m) :=
 (pe_callB call_len_seq hg hm PySem.boot_len (pa_cons ha pa_nil hs) (by decide) (by decide) he hpl).imp fun σ H Q hpat => by
  obtain ⟨F0, H0, F, ρ, g, rl, e, q⟩ := hpat
  unfold mlen at e
  cases h1 : m ρ with
  | none => rw [h1] at e; cases e
  | some ds =>
   rw [h1] at e; cases e
   refine ⟨F0, H0, F, ρ, ds, rl, h1, fun p xs F1 H1 x1 s1 r1 => ⟨p, xs, rfl, .inl s1, ?_⟩⟩
   rw [r1.length]
   exact q _ F1 H1 x1 (.int _)
def absF : List D -> Option D
 | [.int i] => some (.int (if i < 0 then -i else i))
 | _ => none
theorem calld_abs {K : W.Frag} : CallD K (fun xs H Q => ∃ i, xs = [.int i] /\ Q (.int (if i < 0 then -i else i)) H) absF := by
 intro F H vs ds g Q s r h q
 cases r with
 | nil => cases h
 | cons r rr =>
  cases rr with
  | cons _ _ => revert h; unfold absF; intro h; split at h <;> simp_all
  | nil =>
   cases r with
   | int i => cases h; exact ⟨_, rfl, q _ F H (.refl s) (.int _)⟩
   | _ => cases h
theorem pd_abs {e : Expr} {p : Pos} {m : ML} (hg : Gl X "abs") (hm : X.mg "abs" = none) (ha : PAs X [e] m) (he : starEach [e] X.env = (false, eval e X.env) :: starEach [] X.env := by rfl) (hpl : (backTo pos (starEach [] X.env)).any (·.1) = false := by rfl) : PD X (.Call (.Name "abs" p) [e] [] pos) (call1 absF m) :=
 (pe_callB call_abs hg hm PyProof.Rows.boot_abs ha (by decide) (by decide) he hpl).imp fun _ _ _ h => call_d calld_abs h
def two2 (k : Int -> Int -> Int) : List D -> Option D
 | [.int i, .int j] => some (.int (k i j))
 | _ => none
theorem two2_inv {k : Int -> Int -> Int} {ds : List D} {g : D} (h : two2 k ds = some g) : ∃ i j, ds = [.int i, .int j] /\ g = .int (k i j) := by
 cases ds with
 | nil => cases h
 | cons d ds =>
  cases ds with
  | nil => cases d <;> cases h
  | cons e ds =>
   cases ds with
   | cons f ds => cases d <;> first | (cases h; done) | (cases e <;> cases h)
   | nil =>
    cases d with
    | int i =>
     cases e with
     | int j => cases h; exact ⟨i, j, rfl, rfl⟩
     | _ => cases h
    | _ => cases h
theorem calld_two {K : W.Frag} {k : Int -> Int -> Int} : CallD K (fun xs H Q => ∃ i j, xs = [.int i, .int j] /\ Q (.int (k i j)) H) (two2 k) := by
 intro F H vs ds g Q s r h q
 obtain ⟨i, j, rfl, rfl⟩ := two2_inv h
 cases r with
 | cons r rr =>
  cases rr with
  | cons r2 rr =>
   cases rr
   rw [r.i', r2.i']
   exact ⟨_, _, rfl, q _ F H (.refl s) (.int _)⟩
def max2F : List D -> Option D := two2 fun i j => if j > i then j else i
def min2F : List D -> Option D := two2 fun i j => if j < i then j else i
theorem pd_max2 {x y : Expr} {p : Pos} {m : ML} (hc : X.calm = true) (hg : Gl X "max") (hm : X.mg "max" = none) (ha : PAs X [x, y] m) (he : starEach [x, y] X.env = (false, eval x X.env) :: starEach [y] X.env := by rfl) (hpl : (backTo pos (starEach [y] X.env)).any (·.1) = false := by rfl) : PD X (.Call (.Name "max" p) [x, y] [] pos) (call1 max2F m) :=
 (pe_callB (call_max2 hc) hg hm PyProof.Rows.boot_max ha (by decide) (by decide) he hpl).imp fun _ _ _ h => call_d (calld_two (k := fun i j => if j > i then j else i)) h
theorem pd_min2 {x y : Expr} {p : Pos} {m : ML} (hc : X.calm = true) (hg : Gl X "min") (hm : X.mg "min" = none) (ha : PAs X [x, y] m) (he : starEach [x, y] X.env = (false, eval x X.env) :: starEach [y] X.env := by rfl) (hpl : (backTo pos (starEach [y] X.env)).any (·.1) = false := by rfl) : PD X (.Call (.Name "min" p) [x, y] [] pos) (call1 min2F m) :=
 (pe_callB (call_min2 hc) hg hm PyProof.Rows.boot_min ha (by decide) (by decide) he hpl).imp fun _ _ _ h => call_d (calld_two (k := fun i j => if j < i then j else i)) h
def intF : List D -> Option D
 | [.int i] => some (.int i)
 | [.bl k] => some (.int (if k then 1 else 0))
 | _ => none
end
end
section
inductive Out where
 | nx (ρ : Ro) | bk (ρ : Ro) | ct (ρ : Ro) | rt (d : D) | rf (ds : List D) | rp (d : D) (ds : List D) | rg (d : D) (p : Addr) (r : List D) | rgf (ds : List D) (p : Addr) (r : List D)
abbrev MS := Ro -> Option Out
def okO (K : W.Frag) (F0 H0 Fb : Hp) (Dn : Ends) : Out -> Prop
 | .nx ρ => ∀ F H σ, Rl K F0 H0 F H σ ρ -> Same Fb F -> Dn.nx σ H
 | .bk ρ => ∀ F H σ, Rl K F0 H0 F H σ ρ -> Same Fb F -> Dn.bk σ H
 | .ct ρ => ∀ F H σ, Rl K F0 H0 F H σ ρ -> Same Fb F -> Dn.ct σ H
 | .rt d => ∀ v F H, Ext F0 H0 F H -> Rep K F v d -> Dn.rt v H
 | .rf ds => ∀ p xs F H, Ext F0 H0 F H -> H0 p = none -> F p = none -> H p = some (.lst xs) -> Reps K F xs ds -> Dn.rt (.ref p) H
 | .rp d ds => ∀ t v p xs F H, Ext F0 H0 F H -> H0 t = none -> H0 p = none -> t ≠ p -> F t = none -> F p = none -> H t = some (.tup [v, .ref p]) -> H p = some (.lst xs) -> Rep K F v d -> Reps K F xs ds -> Dn.rt (.ref t) H
 | .rg d p r => ∀ v F H xs, Ext F0 H0 F H -> Rep K F v d -> F p = none -> H p = some (.lst xs) -> Reps K F xs r -> Dn.rt v H
 | .rgf ds p r => ∀ q ys F H xs, Ext F0 H0 F H -> H0 q = none -> F q = none -> q ≠ p -> H q = some (.lst ys) -> Reps K F ys ds -> F p = none -> H p = some (.lst xs) -> Reps K F xs r -> Dn.rt (.ref q) H
def TSd (K : W.Frag) (m : MS) : TS := fun Dn σ H => ∃ F0 H0 F ρ o, Rl K F0 H0 F H σ ρ /\ m ρ = some o /\ okO K F0 H0 F Dn o
theorem okO.mono {K : W.Frag} {F0 H0 Fb Fb' : Hp} {Dn : Ends} (s : Same Fb Fb') : ∀ {o : Out}, okO K F0 H0 Fb Dn o -> okO K F0 H0 Fb' Dn o
 | .nx _, h => fun F H σ rl q => h F H σ rl (s.trans q)
 | .bk _, h => fun F H σ rl q => h F H σ rl (s.trans q)
 | .ct _, h => fun F H σ rl q => h F H σ rl (s.trans q)
 | .rt _, h => h
 | .rf _, h => h
 | .rp _ _, h => h
 | .rg _ _ _, h => h
 | .rgf _ _ _, h => h
def PSd (X : Cx) (st : Stmt) (m : MS) : Prop := PS X st (TSd X.K m)
def PSsd (X : Cx) (st : List Stmt) (m : MS) : Prop := PSs X st (TSd X.K m)
section
variable {X : Cx} {a b c e : Expr} {ma mb : ME} {pos : Pos} {st : Stmt} {rest : List Stmt} {m1 m2' : MS}
theorem PS.imp {t t' : TS} (h : PS X st t) (i : ∀ D σ H, t' D σ H -> t D σ H) : PS X st t' := fun pins s σ H D I q => h pins s σ H D I (i D σ H q)
theorem PSs.imp {sts : List Stmt} {t t' : TS} (h : PSs X sts t) (i : ∀ D σ H, t' D σ H -> t D σ H) : PSs X sts t' := fun pins s σ H D I q => h pins s σ H D I (i D σ H q)
def mnext : MS := fun ρ => some (.nx ρ)
def mseq (x y : MS) : MS := fun ρ => match x ρ with | some (.nx ρ') => y ρ' | o => o
theorem pssd_nil : PSsd X [] mnext := pss_nil.imp fun D σ H hpat => by obtain ⟨F0, H0, F, ρ, o, rl, e, ok⟩ := hpat; cases e; exact ok F H σ rl (Same.refl _)
theorem pssd_cons (h1 : PSd X st m1) (h2 : PSsd X rest m2') : PSsd X (st :: rest) (mseq m1 m2') := (pss_cons h1 h2).imp fun D σ H hpat => by
 obtain ⟨F0, H0, F, ρ, o, rl, e, ok⟩ := hpat
 unfold mseq at e
 cases h : m1 ρ with
 | none => rw [h] at e; cases e
 | some o1 =>
  rw [h] at e
  cases o1 with
  | nx ρ1 => exact ⟨F0, H0, F, ρ, _, rl, h, fun F' H' σ' rl' sf => ⟨F0, H0, F', ρ1, o, rl', e, ok.mono sf⟩⟩
  | bk ρ1 => cases e; exact ⟨F0, H0, F, ρ, _, rl, h, ok⟩
  | ct ρ1 => cases e; exact ⟨F0, H0, F, ρ, _, rl, h, ok⟩
  | rt d => cases e; exact ⟨F0, H0, F, ρ, _, rl, h, ok⟩
  | rf d => cases e; exact ⟨F0, H0, F, ρ, _, rl, h, ok⟩
  | rp d ds => cases e; exact ⟨F0, H0, F, ρ, _, rl, h, ok⟩
  | rg d p r => cases e; exact ⟨F0, H0, F, ρ, _, rl, h, ok⟩
  | rgf d p r => cases e; exact ⟨F0, H0, F, ρ, _, rl, h, ok⟩
theorem pssd_one (h1 : PSd X st m1) : PSsd X [st] m1 := pss_one h1
def mif (c : MB) (x y : MS) : MS := fun ρ => match c ρ with | some true => x ρ | some false => y ρ | none => none
theorem psd_if {ca : MB} {x y : List Stmt} {mx my : MS} (hc : PC' X c ca) (hx : PSsd X x mx) (hy : PSsd X y my) : PSd X (.If c x y pos) (mif ca mx my) := (ps_if hc hx hy).imp fun D σ H hpat => by
 obtain ⟨F0, H0, F, ρ, o, rl, e, ok⟩ := hpat
 unfold mif at e
 split at e
 ·rename_i h1
  refine ⟨F0, H0, F, ρ, _, rl, h1, fun F1 H1 x1 => iteT ⟨F0, H0, F1, ρ, o, rl.go x1, e, ok.mono x1.ff⟩⟩
 ·rename_i h1
  refine ⟨F0, H0, F, ρ, _, rl, h1, fun F1 H1 x1 => iteF ⟨F0, H0, F1, ρ, o, rl.go x1, e, ok.mono x1.ff⟩⟩
 ·cases e
def mnever : MS := fun _ => none
theorem psd_never : PSd X st mnever := ps_never.imp fun D σ H hpat => by obtain ⟨F0, H0, F, ρ, o, rl, e, ok⟩ := hpat; cases e
def mset (i : Nat) (x : ME) : MS := fun ρ => (x ρ).map fun d => .nx (ρ.set i (some (.sh d)))
def msetF (i : Nat) (x : ML) : MS := fun ρ => (x ρ).map fun ds => .nx (ρ.set i (some (.own ds)))
theorem asg_d {t : TE} {i : Nat} (h : PS X st (tAsg t (gName i))) (ht : ∀ σ H Q, TD X.K ma σ H Q -> t σ H Q) : PSd X st (mset i ma) := h.imp fun D σ H hpat => by
 obtain ⟨F0, H0, F, ρ, o, rl, e, ok⟩ := hpat
 unfold mset at e
 cases h1 : ma ρ with
 | none => rw [h1] at e; cases e
 | some d =>
  rw [h1] at e; cases e
  exact ht _ _ _ ⟨F0, H0, F, ρ, d, rl, h1, fun v F1 H1 x1 r1 => ok F1 H1 _ ((rl.go x1).set r1) x1.ff⟩
theorem asg_f {t : TE} {i : Nat} {mf : ML} (h : PS X st (tAsg t (gName i))) (ht : ∀ σ H Q, TF X.K mf σ H Q -> t σ H Q) : PSd X st (msetF i mf) := h.imp fun D σ H hpat => by
 obtain ⟨F0, H0, F, ρ, o, rl, e, ok⟩ := hpat
 unfold msetF at e
 cases h1 : mf ρ with
 | none => rw [h1] at e; cases e
 | some ds =>
  rw [h1] at e; cases e
  refine ht _ _ _ ⟨F0, H0, F, ρ, ds, rl, h1, fun p xs F1 H1 x1 hp hF hH r1 => ok F1 H1 _ ?_ x1.ff⟩
  refine (rl.go x1).setOwn hF hH r1 (rl.ext.hh.free hp) (fun j es hj e1 e2 => ?_) fun j q es e1 z => ?_
  ·obtain ⟨q, ys, a1, a2, a3, _⟩ := rl.own j es e1
   rw [a1] at e2; cases e2
   rw [hp] at a3; cases a3
  ·obtain ⟨_, _, _, ys, a3, _⟩ := rl.ob j q es e1
   rw [z, hp] at a3; cases a3
theorem psd_set {i : Nat} {x : Str} {pos' : Pos} (hN : X.N.Nodup) (hi : X.N[i]? = some x) (hx : Loc X.env.scope x) (he : PD X e ma) (hs : swapsWith e (some (.Name x pos')) pos.line X.env = pure false := by rfl) (hf : X.fn x = true \/ X.env.scope.names.lookup x = some .local := by first | exact .inl rfl | exact .inr rfl | assumption) :
  PSd X (.Assign [.Name x pos'] e pos) (mset i ma) := asg_d (ps_set hN hi hx he hs hf) fun _ _ _ h => h
theorem psd_setF {i : Nat} {x : Str} {pos' : Pos} {mf : ML} (hN : X.N.Nodup) (hi : X.N[i]? = some x) (hx : Loc X.env.scope x) (he : PF X e mf) (hs : swapsWith e (some (.Name x pos')) pos.line X.env = pure false := by rfl) (hf : X.fn x = true \/ X.env.scope.names.lookup x = some .local := by first | exact .inl rfl | exact .inr rfl | assumption) :
  PSd X (.Assign [.Name x pos'] e pos) (msetF i mf) := asg_f (ps_set hN hi hx he hs hf) fun _ _ _ h => h
def maug (i : Nat) (x : ME) : MS := fun ρ => match ρ[i]? with | some (some (.sh (.int k))) => (x ρ).bind (fun d => match d with | .int j => some (.nx (ρ.set i (some (.sh (.int (k + j)))))) | _ => none) | _ => none
theorem psd_aug {i : Nat} {x : Str} {pos' : Pos} (hN : X.N.Nodup) (hi : X.N[i]? = some x) (hx : Loc X.env.scope x) (he : PD X e ma) (hf : X.fn x = true \/ X.env.scope.names.lookup x = some .local := by first | exact .inl rfl | exact .inr rfl | assumption) :
  PSd X (.AugAssign (.Name x pos') .Add e pos) (maug i ma) := (ps_aug hN hi hx he ip_add hf).imp fun D σ H hpat => by
 obtain ⟨F0, H0, F, ρ, o, rl, e, ok⟩ := hpat
 unfold maug at e
 split at e
 ·rename_i k h1
  obtain ⟨v, e1, e2⟩ := rl.sh i _ h1
  cases e2
  cases h2 : ma ρ with
  | none => rw [h2] at e; cases e
  | some d =>
   rw [h2] at e
   refine ⟨_, e1, F0, H0, F, ρ, d, rl, h2, fun y F1 H1 x1 r1 => ?_⟩
   cases r1 <;> first | (cases e; done) | skip
   cases e
   exact ⟨_, _, rfl, rfl, ok F1 H1 _ ((rl.go x1).set (.int _)) x1.ff⟩
 ·cases e
def mexpr (x : ME) : MS := fun ρ => (x ρ).map fun _ => .nx ρ
theorem psd_expr (he : PD X e ma) (hs : swapsWith e none pos.line X.env = pure false := by rfl) : PSd X (.Expr e pos) (mexpr ma) := (ps_expr he hs).imp fun D σ H hpat => by
 obtain ⟨F0, H0, F, ρ, o, rl, e, ok⟩ := hpat
 unfold mexpr at e
 cases h1 : ma ρ with
 | none => rw [h1] at e; cases e
 | some d =>
  rw [h1] at e; cases e
  exact ⟨F0, H0, F, ρ, d, rl, h1, fun v F1 H1 x1 r1 => ok F1 H1 _ (rl.go x1) x1.ff⟩
def mret (x : ME) : MS := fun ρ => (x ρ).map .rt
def mretF (x : ML) : MS := fun ρ => (x ρ).map .rf
def mretO (i : Nat) : MS := fun ρ => match ρ[i]? with | some (some (.own ds)) => some (.rf ds) | some (some (.sh d)) => some (.rt d) | _ => none
theorem psd_ret (he : PD X e ma) : PSd X (.Return (some e) pos) (mret ma) := (ps_ret he).imp fun D σ H hpat => by
 obtain ⟨F0, H0, F, ρ, o, rl, e, ok⟩ := hpat
 unfold mret at e
 cases h1 : ma ρ with
 | none => rw [h1] at e; cases e
 | some d =>
  rw [h1] at e; cases e
  exact ⟨F0, H0, F, ρ, d, rl, h1, fun v F1 H1 x1 r1 => ok v F1 H1 (rl.ext.trans x1) r1⟩
theorem psd_retF {mf : ML} (he : PF X e mf) : PSd X (.Return (some e) pos) (mretF mf) := (ps_ret he).imp fun D σ H hpat => by
 obtain ⟨F0, H0, F, ρ, o, rl, e, ok⟩ := hpat
 unfold mretF at e
 cases h1 : mf ρ with
 | none => rw [h1] at e; cases e
 | some ds =>
  rw [h1] at e; cases e
  exact ⟨F0, H0, F, ρ, ds, rl, h1, fun p xs F1 H1 x1 hp hF hH r1 => ok p xs F1 H1 (rl.ext.trans x1) (rl.ext.hh.free hp) hF hH r1⟩
theorem psd_retO (i : Nat) {x : Str} {pos' : Pos} (h : PE X (.Name x pos') (tVar i)) : PSd X (.Return (some (.Name x pos')) pos) (mretO i) := (ps_ret h).imp fun D σ H hpat => by
 obtain ⟨F0, H0, F, ρ, o, rl, e, ok⟩ := hpat
 unfold mretO at e
 split at e
 ·rename_i ds h1
  cases e
  obtain ⟨p, xs, e1, e2, e3, e4, e5⟩ := rl.own i _ h1
  exact ⟨_, e1, ok p xs F H rl.ext e5 e2 e3 e4⟩
 ·rename_i d h1
  cases e
  obtain ⟨v, e1, e2⟩ := rl.sh i _ h1
  exact ⟨_, e1, ok v F H rl.ext e2⟩
 ·cases e
def mapp (i : Nat) (x : ME) : MS := fun ρ => match ρ[i]? with | some (some (.own ds)) => (x ρ).bind fun d => if ds.length < sizeLine then some (.nx (ρ.set i (some (.own (ds ++ [d]))))) else none | _ => none
theorem psd_append {i : Nat} {x : Str} {e : Expr} {px apos cpos : Pos} (hv : PE X (.Name x px) (tVar i)) (he : PD X e ma)
  (hE : ∀ t, PA X [e] t -> PE X (.Call (.Attribute (.Name x px) "append" apos) [e] [] cpos) (tBM X.K "list" rAppend (tVar i) t)) (hA : PAs X [e] (acons ma anil)) (hs : swapsWith (.Call (.Attribute (.Name x px) "append" apos) [e] [] cpos) none pos.line X.env = pure false := by rfl) :
  PSd X (.Expr (.Call (.Attribute (.Name x px) "append" apos) [e] [] cpos) pos) (mapp i ma) := (ps_expr (hE _ hA) hs).imp fun D σ H hpat => by
 obtain ⟨F0, H0, F, ρ, o, rl, e, ok⟩ := hpat
 unfold mapp at e
 split at e
 ·rename_i ds h1
  obtain ⟨p, xs, e1, e2, e3, e4, e5⟩ := rl.own i _ h1
  cases h2 : ma ρ with
  | none => rw [h2] at e; cases e
  | some d =>
   rw [h2] at e
   have e : (if ds.length < sizeLine then some (Out.nx (ρ.set i (some (.own (ds ++ [d]))))) else none) = some o := e
   split at e
   ·rename_i hz
    cases e
    refine ⟨_, e1, .inl ⟨rfl, _, SqL.of e3⟩, F0, H0, F, ρ, [d], rl, by unfold acons anil; rw [h2]; rfl, fun vs F1 H1 x1 r1 => ?_⟩
    cases r1 with
    | cons r rr =>
     cases rr
     have hp : H1 p = some (.lst xs) := x1.hh _ _ e3
     exact ⟨p, xs, _, rfl, rfl, hp, by rw [e4.length]; exact hz, ok F1 _ σ ((rl.go x1).write h1 e1 ((e4.mono x1.ff).append (.cons r .nil))) x1.ff⟩
   ·cases e
 ·cases e
def msetix (i : Nat) (ix v : ME) : MS := fun ρ => (v ρ).bind fun d => match ρ[i]? with
 | some (some (.own ds)) => (ix ρ).bind (fun x => match x with | .int k => (ixN ds.length k).map fun j => .nx (ρ.set i (some (.own (ds.set j d)))) | _ => none)
 | some (some (.ob p ds)) => (ix ρ).bind (fun x => match x with | .int k => (ixN ds.length k).map fun j => .nx (ρ.set i (some (.ob p (ds.set j d)))) | _ => none)
 | _ => none
theorem psd_setix {i : Nat} (hE : PS X st (tAsg (TD X.K mb) (gSub (tVar i) (TD X.K ma) rSetL))) : PSd X st (msetix i ma mb) := hE.imp fun D σ H hpat => by
 obtain ⟨F0, H0, F, ρ, o, rl, e, ok⟩ := hpat
 unfold msetix at e
 cases h1 : mb ρ with
 | none => rw [h1] at e; cases e
 | some d =>
  rw [h1] at e
  refine ⟨F0, H0, F, ρ, d, rl, h1, fun y F1 H1 x1 r1 => ?_⟩
  dsimp only [Option.bind] at e
  split at e
  ·rename_i ds h2
   obtain ⟨p, xs, e1, e2, e3, e4, e5⟩ := (rl.go x1).own i _ h2
   cases h3 : ma ρ with
   | none => rw [h3] at e; cases e
   | some k' =>
    rw [h3] at e
    refine ⟨_, e1, F0, H0, F1, ρ, k', rl.go x1, h3, fun z F2 H2 x2 r2 => ?_⟩
    cases r2 <;> first | (cases e; done) | skip
    rename_i k
    have e : (ixN ds.length k).map (fun j => Out.nx (ρ.set i (some (.own (ds.set j d))))) = some o := e
    cases h4 : ixN ds.length k with
    | none => rw [h4] at e; cases e
    | some j =>
     rw [h4] at e; cases e
     have rl2 := (rl.go x1).go x2
     refine ⟨p, xs, k, j, rfl, rfl, x2.hh _ _ e3, by rw [e4.length]; exact h4, ok F2 _ σ (rl2.write h2 e1 (Reps.set (r1.mono x2.ff) j (e4.mono x2.ff))) (x1.ff.trans x2.ff)⟩
  ·rename_i p ds h2
   obtain ⟨e1, e2, e5, xs, e3, e4⟩ := (rl.go x1).ob i p _ h2
   cases h3 : ma ρ with
   | none => rw [h3] at e; cases e
   | some k' =>
    rw [h3] at e
    refine ⟨_, e1, F0, H0, F1, ρ, k', rl.go x1, h3, fun z F2 H2 x2 r2 => ?_⟩
    cases r2 <;> first | (cases e; done) | skip
    rename_i k
    have e : (ixN ds.length k).map (fun j => Out.nx (ρ.set i (some (.ob p (ds.set j d))))) = some o := e
    cases h4 : ixN ds.length k with
    | none => rw [h4] at e; cases e
    | some j =>
     rw [h4] at e; cases e
     have rl2 := (rl.go x1).go x2
     refine ⟨p, xs, k, j, rfl, rfl, x2.hh _ _ e3, by rw [e4.length]; exact h4, ok F2 _ σ (rl2.writeB h2 (Reps.set (r1.mono x2.ff) j (e4.mono x2.ff))) (x1.ff.trans x2.ff)⟩
  ·cases e
def mfreeze (i : Nat) (m : MS) : MS := fun ρ => match ρ[i]? with | some (some (.own ds)) => m (ρ.set i (some (.sh (.lst ds)))) | _ => m ρ
theorem pssd_freeze (i : Nat) {sts : List Stmt} {m : MS} (h : PSsd X sts m) : PSsd X sts (mfreeze i m) := h.imp fun D σ H hpat => by
 obtain ⟨F0, H0, F, ρ, o, rl, e, ok⟩ := hpat
 unfold mfreeze at e
 split at e
 ·rename_i ds h1
  obtain ⟨F', rl', sf⟩ := rl.freeze h1
  exact ⟨F0, H0, F', _, o, rl', e, ok.mono sf⟩
 ·exact ⟨F0, H0, F, ρ, o, rl, e, ok⟩
inductive Tg where
 | nm (i : Nat) | tp (is : List Nat) | nt (i : Nat) (is : List Nat)
def setAll : List Nat -> List D -> Ro -> Option Ro
 | [], [], ρ => some ρ
 | i :: is, d :: ds, ρ => setAll is ds (ρ.set i (some (.sh d)))
 | _, _, _ => none
def tgD : Tg -> D -> Ro -> Option Ro
 | .nm i, d, ρ => some (ρ.set i (some (.sh d)))
 | .tp is, .tup ds, ρ => setAll is ds ρ
 | .nt i is, .tup [d, .tup ds], ρ => setAll is ds (ρ.set i (some (.sh d)))
 | _, _, _ => none
def TGd (K : W.Frag) (g : Tg) : TG := fun v σ H Q => ∃ F0 H0 F ρ d ρ', Rl K F0 H0 F H σ ρ /\ Rep K F v d /\ tgD g d ρ = some ρ' /\ ∀ F' H' σ', Rl K F0 H0 F' H' σ' ρ' -> Ext F H F' H' -> Q σ' H'
def PGd (X : Cx) (tg : Expr) (g : Tg) : Prop := PG X tg (TGd X.K g)
theorem PG.imp {tg : Expr} {t t' : TG} (h : PG X tg t) (i : ∀ v σ H Q, t' v σ H Q -> t v σ H Q) : PG X tg t' := fun pins s σ H v u Q I r q => h pins s σ H v u Q I r (i v σ H Q q)
theorem pgd_name {i : Nat} {x : Str} {pos : Pos} (h : PG X (.Name x pos) (gName i)) : PGd X (.Name x pos) (.nm i) := PG.imp h fun v σ H Q hpat => by
 obtain ⟨F0, H0, F, ρ, d, ρ', rl, r, e, q⟩ := hpat
 cases e; exact q F H _ (rl.set r) (.refl rl.fh)
def gAll : List Nat -> TGs
 | [] => gNil
 | i :: is => gCons (gName i) (gAll is)
theorem gAll_ok {K : W.Frag} {F0 H0 F H : Hp} {Q : St -> Hp -> Prop} : ∀ (is : List Nat) (vs : List V) (ds : List D) (σ : St) (ρ ρ' : Ro), Rl K F0 H0 F H σ ρ -> Reps K F vs ds -> setAll is ds ρ = some ρ' -> (∀ σ', Rl K F0 H0 F H σ' ρ' -> Q σ' H) -> gAll is vs σ H Q
 | [], _, [], σ, ρ, ρ', rl, r, e, q => by cases r; cases e; exact ⟨rfl, q σ rl⟩
 | [], _, _ :: _, _, _, _, _, _, e, _ => by cases e
 | _ :: _, _, [], _, _, _, _, _, e, _ => by cases e
 | i :: is, _, d :: ds, σ, ρ, ρ', rl, r, e, q => by
  cases r with
  | cons r rr => exact ⟨_, _, rfl, gAll_ok is _ ds _ _ ρ' (rl.set r) rr e q⟩
theorem setAll_len : ∀ (is : List Nat) (ds : List D) (ρ ρ' : Ro), setAll is ds ρ = some ρ' -> ds.length = is.length
 | [], [], _, _, _ => rfl
 | [], _ :: _, _, _, e => by cases e
 | _ :: _, [], _, _, e => by cases e
 | _ :: is, _ :: ds, ρ, ρ', e => congrArg (· + 1) (setAll_len is ds _ ρ' e)
theorem pgd_tup {es : List Expr} {k n : Nat} {is : List Nat} {pos : Pos} (h : PG X (.Tuple es k pos) (gTup X.K n (gAll is))) (hn : is.length = n := by rfl) : PGd X (.Tuple es k pos) (.tp is) := PG.imp h fun v σ H Q hpat => by
 obtain ⟨F0, H0, F, ρ, d, ρ', rl, r, e, q⟩ := hpat
 cases r with
 | tup s t => exact ⟨_, _, rfl, rl.fh.seqT s, by rw [t.length, setAll_len _ _ _ _ e, hn], gAll_ok is _ _ σ ρ ρ' rl t e fun σ' rl' => q F H σ' rl' (.refl rl.fh)⟩
 | _ => cases e
def masg (g : Tg) (x : ME) : MS := fun ρ => (x ρ).bind fun d => (tgD g d ρ).map .nx
theorem psd_asg {g : Tg} (h : PS X st (tAsg (TD X.K ma) (TGd X.K g))) : PSd X st (masg g ma) := h.imp fun D σ H hpat => by
 obtain ⟨F0, H0, F, ρ, o, rl, e, ok⟩ := hpat
 unfold masg at e
 cases h1 : ma ρ with
 | none => rw [h1] at e; cases e
 | some d =>
  rw [h1] at e
  have e : (tgD g d ρ).map Out.nx = some o := e
  cases h2 : tgD g d ρ with
  | none => rw [h2] at e; cases e
  | some ρ' =>
   rw [h2] at e; cases e
   exact ⟨F0, H0, F, ρ, d, rl, h1, fun v F1 H1 x1 r1 => ⟨F0, H0, F1, ρ, d, ρ', rl.go x1, r1, h2, fun F' H' σ' rl' x2 => ok F' H' σ' rl' (x1.ff.trans x2.ff)⟩⟩
structure ItD (K : W.Frag) (F : Hp) (J : It) (its : List D) : Prop where
 go : ∀ (i : Nat) F1 H1, Same F F1 -> Same F1 H1 -> i < its.length -> J.go i H1
 yld : ∀ (i : Nat) F1 H1 x H2 d, Same F F1 -> Same F1 H1 -> its[i]? = some d -> J.yld i H1 x H2 -> ∃ F2, Ext F1 H1 F2 H2 /\ Rep K F2 x d
 stop : ∀ F1 H1, Same F F1 -> Same F1 H1 -> J.stop its.length H1
def TId (K : W.Frag) (mi : ML) : TI := fun σ H R => ∃ F0 H0 F ρ its, Rl K F0 H0 F H σ ρ /\ mi ρ = some its /\ ∀ J F' H', Ext F H F' H' -> ItD K F' J its -> R J H'
def PId (X : Cx) (tg iter : Expr) (mi : ML) : Prop := PI X tg iter (TId X.K mi)
theorem PI.imp {tg it : Expr} {t t' : TI} (h : PI X tg it t) (i : ∀ σ H R, t' σ H R -> t σ H R) : PI X tg it t' := fun pins s σ H R I q => h pins s σ H R I (i σ H R q)
theorem itd_list {K : W.Frag} {F : Hp} {p : Addr} {xs : List V} {ds : List D} (s : SqL K F p xs) (r : Reps K F xs ds) : ItD K F (Itl K p) ds where
 go := fun i F1 H1 a b hi => by
  obtain ⟨v, e, _⟩ := r.get (getElem?_eq_getElem hi)
  exact ⟨xs, v, b.seq (a.seq s), e⟩
 yld := fun i F1 H1 x H2 d a b e y => by
  obtain ⟨rfl, y⟩ := y
  obtain ⟨v, e1, e2⟩ := r.get e
  have := y xs (b.seq (a.seq s))
  rw [e1] at this; cases this
  exact ⟨F1, .refl b, e2.mono a⟩
 stop := fun F1 H1 a b => ⟨xs, b.seq (a.seq s), by rw [r.length]; exact Nat.le_refl _⟩
theorem pid_seq {tg : Expr} (hd : PD X e ma) : PId X tg e (aslst ma) := PI.imp (pi_list hd) fun σ H R hpat => by
 obtain ⟨F0, H0, F, ρ, its, rl, e, q⟩ := hpat
 unfold aslst at e
 split at e
 ·rename_i ds h1
  cases e
  refine ⟨F0, H0, F, ρ, _, rl, h1, fun v F1 H1 x1 r1 => ?_⟩
  cases r1 with
  | lst s t => exact ⟨_, rfl, ⟨_, x1.fh.seq s⟩, q _ F1 H1 x1 (itd_list s t)⟩
 ·cases e
def rangeD (lo : Int) (n : Nat) : List D := (List.range n).map fun (i : Nat) => D.int (lo + (i : Int))
theorem rangeD_length (lo : Int) (n : Nat) : (rangeD lo n).length = n := by unfold rangeD; simp
theorem itd_range {K : W.Frag} {F : Hp} {lo : Int} {n : Nat} : ItD K F (Itr lo n) (rangeD lo n) where
 go := fun i F1 H1 a b hi => by rw [rangeD_length] at hi; exact hi
 yld := fun i F1 H1 x H2 d a b e y => by
  obtain ⟨rfl, rfl⟩ := y
  unfold rangeD at e
  rw [getElem?_map] at e
  have hi : i < n := by
   rcases Nat.lt_or_ge i n with h | h
   ·exact h
   ·rw [getElem?_eq_none (by simpa using h)] at e; cases e
  rw [getElem?_range hi] at e
  cases e
  exact ⟨F1, .refl b, .int _⟩
 stop := fun F1 H1 a b => by rw [rangeD_length]; exact Nat.le_refl n
def okR (j : Int) : Bool := decide (-(2 ^ 62) <= j) && decide (j < 2 ^ 62)
def rng1 : List D -> Option (List D)
 | [.int j] => if okR j = true then some (rangeD 0 j.toNat) else none
 | _ => none
def rng2 : List D -> Option (List D)
 | [.int i, .int j] => if (okR i && okR j) = true then some (rangeD i (j - i).toNat) else none
 | _ => none
@[irreducible] def mlist (f : List D -> Option (List D)) (m : ML) : ML := fun ρ => (m ρ).bind f
theorem mlist_some {f : List D -> Option (List D)} {m : ML} {ρ : Ro} {gs : List D} (h : mlist f m ρ = some gs) : ∃ ds, m ρ = some ds /\ f ds = some gs := by
 unfold mlist at h
 cases h1 : m ρ with
 | none => rw [h1] at h; cases h
 | some ds => rw [h1] at h; exact ⟨ds, rfl, h⟩
theorem pid_range1 {tg a : Expr} {m : ML} {p pos : Pos} (hg : Gl X "range") (hm : X.mg "range" = none) (ha : PAs X [a] m) (hs : starEach [a] X.env = [(false, eval a X.env)] := by rfl) : PId X tg (.Call (.Name "range" p) [a] [] pos) (mlist rng1 m) := PI.imp (pi_range1 hg hm ha hs) fun σ H R hpat => by
 obtain ⟨F0, H0, F, ρ, its, rl, e, q⟩ := hpat
 obtain ⟨ds, h1, h2⟩ := mlist_some e
 refine ⟨F0, H0, F, ρ, ds, rl, h1, fun vs F1 H1 x1 r1 => ?_⟩
 unfold rng1 at h2
 split at h2
 ·rename_i j
  split at h2
  ·rename_i hk
   cases h2
   unfold okR at hk
   simp only [Bool.and_eq_true, decide_eq_true_eq] at hk
   cases r1 with
   | cons r rr =>
    cases rr; cases r
    exact ⟨j, rfl, hk.1, hk.2, q _ F1 H1 x1 itd_range⟩
  ·cases h2
 ·cases h2
theorem pid_range2 {tg a b : Expr} {m : ML} {p pos : Pos} (hg : Gl X "range") (hm : X.mg "range" = none) (ha : PAs X [a, b] m) (hs : starEach [a, b] X.env = [(false, eval a X.env), (false, eval b X.env)] := by rfl) (hs2 : starEach [b] X.env = [(false, eval b X.env)] := by rfl) : PId X tg (.Call (.Name "range" p) [a, b] [] pos) (mlist rng2 m) := PI.imp (pi_range2 hg hm ha hs hs2) fun σ H R hpat => by
 obtain ⟨F0, H0, F, ρ, its, rl, e, q⟩ := hpat
 obtain ⟨ds, h1, h2⟩ := mlist_some e
 refine ⟨F0, H0, F, ρ, ds, rl, h1, fun vs F1 H1 x1 r1 => ?_⟩
 unfold rng2 at h2
 split at h2
 ·rename_i i j
  split at h2
  ·rename_i hk
   cases h2
   unfold okR at hk
   simp only [Bool.and_eq_true, decide_eq_true_eq] at hk
   cases r1 with
   | cons r rr =>
    cases rr with
    | cons r2 rr =>
     cases rr; cases r; cases r2
     exact ⟨i, j, rfl, ⟨hk.1.1, hk.1.2, hk.2.1, hk.2.2⟩, q _ F1 H1 x1 itd_range⟩
  ·cases h2
 ·cases h2
def zip2 : List D -> Option (List D)
 | [.lst ds, .lst es] => some (List.zipWith (fun d e => .tup [d, e]) ds es)
 | _ => none
theorem itd_zip2 {K : W.Frag} {F : Hp} {p q : Addr} {xs ys : List V} {ds es : List D} (s : SqL K F p xs) (r : Reps K F xs ds) (s' : SqL K F q ys) (r' : Reps K F ys es) : ItD K F (Itz2 K p q) (List.zipWith (fun d e => D.tup [d, e]) ds es) where
 go := fun i F1 H1 a b hi => by
  rw [length_zipWith] at hi
  obtain ⟨v, e, _⟩ := r.get (getElem?_eq_getElem (show i < ds.length by omega))
  obtain ⟨w, e', _⟩ := r'.get (getElem?_eq_getElem (show i < es.length by omega))
  exact ⟨xs, ys, v, w, b.seq (a.seq s), b.seq (a.seq s'), e, e'⟩
 yld := fun i F1 H1 x H2 d a b e y => by
  obtain ⟨t, u, v, rfl, ht, rfl, y1, y2⟩ := y
  have y1 := y1 xs (b.seq (a.seq s))
  have y2 := y2 ys (b.seq (a.seq s'))
  obtain ⟨d1, e1, r1⟩ := r.get' y1
  obtain ⟨d2, e2, r2⟩ := r'.get' y2
  rw [getElem?_zipWith, e1, e2] at e
  cases e
  refine ⟨upd F1 t (.tup [u, v]), Ext.laid b ht, .tup (SqT.of upd_same) ?_⟩
  have mm : Same F (upd F1 t (.tup [u, v])) := a.trans ((Same.refl F1).put (b.free ht))
  exact .cons (r1.mono mm) (.cons (r2.mono mm) .nil)
 stop := fun F1 H1 a b => ⟨xs, ys, b.seq (a.seq s), b.seq (a.seq s'), by rw [r.length, r'.length, length_zipWith]; omega⟩
theorem pid_zip2 {es : List Expr} {tk : Nat} {tp : Pos} {a b : Expr} {m : ML} {p pos : Pos} (hg : Gl X "zip") (hm : X.mg "zip" = none) (ha : PAs X [a, b] m) (hs : starEach [a, b] X.env = [(false, eval a X.env), (false, eval b X.env)] := by rfl) (hs2 : starEach [b] X.env = [(false, eval b X.env)] := by rfl) : PId X (.Tuple es tk tp) (.Call (.Name "zip" p) [a, b] [] pos) (mlist zip2 m) := PI.imp (pi_zip2 hg hm ha hs hs2) fun σ H R hpat => by
 obtain ⟨F0, H0, F, ρ, its, rl, e, q⟩ := hpat
 obtain ⟨ds, h1, h2⟩ := mlist_some e
 refine ⟨F0, H0, F, ρ, ds, rl, h1, fun vs F1 H1 x1 r1 => ?_⟩
 unfold zip2 at h2
 split at h2
 ·cases h2
  cases r1 with
  | cons r rr =>
   cases rr with
   | cons r2 rr =>
    cases rr
    cases r with
    | lst s t =>
     cases r2 with
     | lst s2 t2 => exact ⟨_, _, _, _, rfl, x1.fh.seq s, x1.fh.seq s2, q _ F1 H1 x1 (itd_zip2 s t s2 t2)⟩
 ·cases h2
def zipW3 : List D -> List D -> List D -> List D
 | d :: ds, e :: es, f :: fs => .tup [d, e, f] :: zipW3 ds es fs
 | _, _, _ => []
theorem zipW3_length : ∀ ds es fs, (zipW3 ds es fs).length = min ds.length (min es.length fs.length)
 | [], _, _ => by simp [zipW3]
 | _ :: _, [], _ => by simp [zipW3]
 | _ :: _, _ :: _, [] => by simp [zipW3]
 | _ :: ds, _ :: es, _ :: fs => by simp only [zipW3, length_cons, zipW3_length ds es fs]; omega
theorem zipW3_get : ∀ ds es fs (i : Nat) d e f, ds[i]? = some d -> es[i]? = some e -> fs[i]? = some f -> (zipW3 ds es fs)[i]? = some (.tup [d, e, f])
 | [], _, _, _, _, _, _, h, _, _ => by simp at h
 | _ :: _, [], _, _, _, _, _, _, h, _ => by simp at h
 | _ :: _, _ :: _, [], _, _, _, _, _, _, h => by simp at h
 | _ :: ds, _ :: es, _ :: fs, 0, d, e, f, h1, h2, h3 => by simp at h1 h2 h3; subst h1 h2 h3; rfl
 | _ :: ds, _ :: es, _ :: fs, i + 1, d, e, f, h1, h2, h3 => by
  have := zipW3_get ds es fs i d e f (by simpa using h1) (by simpa using h2) (by simpa using h3)
  simpa [zipW3] using this
def zip3 : List D -> Option (List D)
 | [.lst ds, .lst es, .lst fs] => some (zipW3 ds es fs)
 | _ => none
theorem itd_zip3 {K : W.Frag} {F : Hp} {p q o : Addr} {xs ys zs : List V} {ds es fs : List D} (s : SqL K F p xs) (r : Reps K F xs ds) (s' : SqL K F q ys) (r' : Reps K F ys es) (s'' : SqL K F o zs) (r'' : Reps K F zs fs) : ItD K F (Itz3 K p q o) (zipW3 ds es fs) where
 go := fun i F1 H1 a b hi => by
  rw [zipW3_length] at hi
  obtain ⟨v, e, _⟩ := r.get (getElem?_eq_getElem (show i < ds.length by omega))
  obtain ⟨w, e', _⟩ := r'.get (getElem?_eq_getElem (show i < es.length by omega))
  obtain ⟨u, e'', _⟩ := r''.get (getElem?_eq_getElem (show i < fs.length by omega))
  exact ⟨xs, ys, zs, v, w, u, b.seq (a.seq s), b.seq (a.seq s'), b.seq (a.seq s''), e, e', e''⟩
 yld := fun i F1 H1 x H2 d a b e y => by
  obtain ⟨t, u, v, w, rfl, ht, rfl, y1, y2, y3⟩ := y
  have y1 := y1 xs (b.seq (a.seq s))
  have y2 := y2 ys (b.seq (a.seq s'))
  have y3 := y3 zs (b.seq (a.seq s''))
  obtain ⟨d1, e1, r1⟩ := r.get' y1
  obtain ⟨d2, e2, r2⟩ := r'.get' y2
  obtain ⟨d3, e3, r3⟩ := r''.get' y3
  rw [zipW3_get _ _ _ i d1 d2 d3 e1 e2 e3] at e
  cases e
  refine ⟨upd F1 t (.tup [u, v, w]), Ext.laid b ht, .tup (SqT.of upd_same) ?_⟩
  have mm : Same F (upd F1 t (.tup [u, v, w])) := a.trans ((Same.refl F1).put (b.free ht))
  exact .cons (r1.mono mm) (.cons (r2.mono mm) (.cons (r3.mono mm) .nil))
 stop := fun F1 H1 a b => ⟨xs, ys, zs, b.seq (a.seq s), b.seq (a.seq s'), b.seq (a.seq s''), by rw [r.length, r'.length, r''.length, zipW3_length]; omega⟩
theorem pid_zip3 {es : List Expr} {tk : Nat} {tp : Pos} {a b c : Expr} {m : ML} {p pos : Pos} (hg : Gl X "zip") (hm : X.mg "zip" = none) (ha : PAs X [a, b, c] m) (hs : starEach [a, b, c] X.env = (false, eval a X.env) :: starEach [b, c] X.env := by rfl) (hs2 : ∀ pos, ((backTo pos (starEach [b, c] X.env)).any fun x => x.1) = false := by intro _; rfl) : PId X (.Tuple es tk tp) (.Call (.Name "zip" p) [a, b, c] [] pos) (mlist zip3 m) := PI.imp (pi_zip3 hg hm ha hs hs2) fun σ H R hpat => by
 obtain ⟨F0, H0, F, ρ, its, rl, e, q⟩ := hpat
 obtain ⟨ds, h1, h2⟩ := mlist_some e
 refine ⟨F0, H0, F, ρ, ds, rl, h1, fun vs F1 H1 x1 r1 => ?_⟩
 unfold zip3 at h2
 split at h2
 ·cases h2
  cases r1 with
  | cons r rr =>
   cases rr with
   | cons r2 rr =>
    cases rr with
    | cons r3 rr =>
    cases rr
    cases r with
    | lst s t =>
     cases r2 with
     | lst s2 t2 =>
      cases r3 with
      | lst s3 t3 => exact ⟨_, _, _, _, _, _, rfl, x1.fh.seq s, x1.fh.seq s2, x1.fh.seq s3, q _ F1 H1 x1 (itd_zip3 s t s2 t2 s3 t3)⟩
 ·cases h2
end
end
section
def forD (g : Tg) (body : MS) : List D -> MS
 | [], ρ => some (.nx ρ)
 | d :: ds, ρ => match tgD g d ρ with
  | some ρ1 => match body ρ1 with
   | some (.nx ρ2) => forD g body ds ρ2
   | some (.ct ρ2) => forD g body ds ρ2
   | some (.bk ρ2) => some (.nx ρ2)
   | o => o
  | none => none
def mfor (mi : ML) (g : Tg) (body : MS) : MS := fun ρ => (mi ρ).bind fun its => forD g body its ρ
theorem drop_get {α : Type} {xs : List α} {i : Nat} {d : α} (h : xs[i]? = some d) : xs.drop i = d :: xs.drop (i + 1) := by
 obtain ⟨hl, e⟩ := List.getElem?_eq_some_iff.mp h
 rw [drop_eq_getElem_cons hl, e]
section
variable {X : Cx} {a b c e : Expr} {ma mb : ME} {pos : Pos} {st : Stmt} {rest : List Stmt}
theorem psd_for {tg iter : Expr} {body : List Stmt} {mi : ML} {g : Tg} {mb : MS} (hp : PassesOwn (model X.prog X.w) X.A X.env X.xe) (hc : X.calm = true) (hi : PId X tg iter mi) (hg : PGd X tg g) (hb : PSsd X body mb)
  (hs : ∀ x, foldedSetIterable iter X.env x = pure x := by intro _; rfl) : PSd X (.For tg iter body [] pos) (mfor mi g mb) := (ps_for hp hc hi hg hb hs).imp fun Dn σ H hpat => by
 obtain ⟨F0, H0, F, ρ, o, rl, e, ok⟩ := hpat
 unfold mfor at e
 cases h1 : mi ρ with
 | none => rw [h1] at e; cases e
 | some its =>
  rw [h1] at e
  have e : forD g mb its ρ = some o := e
  refine ⟨F0, H0, F, ρ, its, rl, h1, fun J F1 H1 x1 I => ?_⟩
  refine ⟨fun i m σ' H' => ∃ F' ρ', Rl X.K F0 H0 F' H' σ' ρ' /\ Same F1 F' /\ i <= its.length /\ m = its.length - i /\ forD g mb (its.drop i) ρ' = some o, ⟨_, F1, ρ, rl.go x1, Same.refl _, Nat.zero_le _, rfl, e⟩, ?_⟩
  rintro i m σ' H' ⟨F', ρ', rl', sf, hi', rfl, e'⟩
  by_cases hlt : i < its.length
  ·right
   have hd := getElem?_eq_getElem hlt
   refine ⟨I.go i F' H' sf rl'.fh hlt, fun σ2 H2 => ∃ F2 ρ2, Rl X.K F0 H0 F2 H2 σ2 ρ2 /\ Same F1 F2 /\ forD g mb (its.drop (i + 1)) ρ2 = some o, ?_, fun x H2 y => ?_⟩
   ·rintro σ2 H2 ⟨F2, ρ2, rl2, sf2, e2⟩
    exact ⟨its.length - (i + 1), by omega, F2, ρ2, rl2, sf2, hlt, rfl, e2⟩
   ·obtain ⟨F2, x2, r2⟩ := I.yld i F' H' x H2 _ sf rl'.fh hd y
    rw [drop_get hd] at e'
    unfold forD at e'
    cases h2 : tgD g its[i] ρ' with
    | none => simp only [h2] at e'; cases e'
    | some ρ1 =>
     simp only [h2] at e'
     refine ⟨F0, H0, F2, ρ', _, ρ1, rl'.go x2, r2, h2, fun F3 H3 σ3 rl3 x3 => ?_⟩
     have s3 : Same F1 F3 := (sf.trans x2.ff).trans x3.ff
     cases h3 : mb ρ1 with
     | none => simp only [h3] at e'; cases e'
     | some o1 =>
      simp only [h3] at e'
      refine ⟨F0, H0, F3, ρ1, o1, rl3, h3, ?_⟩
      cases o1 with
      | nx ρ2 => exact fun F4 H4 σ4 rl4 s4 => ⟨F4, ρ2, rl4, s3.trans s4, e'⟩
      | ct ρ2 => exact fun F4 H4 σ4 rl4 s4 => ⟨F4, ρ2, rl4, s3.trans s4, e'⟩
      | bk ρ2 =>
       cases e'
       exact fun F4 H4 σ4 rl4 s4 => ok F4 H4 σ4 rl4 ((x1.ff.trans s3).trans s4)
      | rt d => cases e'; exact ok
      | rf d => cases e'; exact ok
      | rp d ds => cases e'; exact ok
      | rg d p r => cases e'; exact ok
      | rgf d p r => cases e'; exact ok
  ·left
   have hieq : i = its.length := by omega
   subst hieq
   rw [drop_length] at e'
   have e' : some (Out.nx ρ') = some o := e'
   cases e'
   exact ⟨I.stop F' H' sf rl'.fh, ok F' H' σ' rl' (x1.ff.trans sf)⟩
end
end
section
def blkRo (src : List (Option Nat)) (ρ : Ro) : Ro := src.map fun o => o.bind fun i => match ρ[i]? with | some (some (.sh d)) => some (.sh d) | _ => none
def compD (g : Tg) (c : MB) (elt : ME) : List D -> Ro -> List D -> Option (List D)
 | [], _, acc => some acc
 | d :: ds, ρ, acc => match tgD g d ρ with
  | some ρ1 => match c ρ1 with
   | some true => match elt ρ1 with
    | some x => if acc.length < sizeLine then compD g c elt ds ρ1 (acc ++ [x]) else none
    | none => none
   | some false => compD g c elt ds ρ1 acc
   | none => none
  | none => none
@[irreducible] def mcomp (src : List (Option Nat)) (mi : ML) (g : Tg) (c : MB) (elt : ME) : ML := fun ρ => (mi ρ).bind fun its => compD g c elt its (blkRo src ρ) []
def NoOwn (ρ : Ro) : Prop := ∀ (i : Nat) ds, ρ[i]? ≠ some (some (.own ds)) /\ ∀ p, ρ[i]? ≠ some (some (.ob p ds))
theorem NoOwn.set {ρ : Ro} (h : NoOwn ρ) (i : Nat) (d : D) : NoOwn (ρ.set i (some (.sh d))) := fun j ds => ⟨fun e => by
 by_cases hj : i = j
 ·subst hj
  have hl : i < ρ.length := by
   rcases Nat.lt_or_ge i ρ.length with z | z
   ·exact z
   ·rw [getElem?_eq_none (by simpa using z)] at e; cases e
  rw [getElem?_set_self hl] at e; cases e
 ·rw [getElem?_set_ne hj] at e; exact (h j ds).1 e, fun p e => (h j ds).2 p (set_ob e).2⟩
theorem NoOwn.all : ∀ (is : List Nat) (ds : List D) {ρ ρ' : Ro}, NoOwn ρ -> setAll is ds ρ = some ρ' -> NoOwn ρ'
 | [], [], ρ, ρ', h, e => by cases e; exact h
 | [], _ :: _, _, _, _, e => by cases e
 | _ :: _, [], _, _, _, e => by cases e
 | i :: is, d :: ds, ρ, ρ', h, e => NoOwn.all is ds (h.set i d) e
theorem NoOwn.tg {g : Tg} {d : D} {ρ ρ' : Ro} (h : NoOwn ρ) (e : tgD g d ρ = some ρ') : NoOwn ρ' := by
 cases g with
 | nm i => cases e; exact h.set i d
 | tp is => cases d <;> first | (cases e; done) | exact NoOwn.all is _ h e
 | nt i is =>
  cases d with
  | tup ds =>
   match ds, e with
   | [d, .tup ds], e => exact NoOwn.all is _ (h.set i d) e
  | _ => cases e
theorem Rl.blk {K : W.Frag} {F0 H0 F H : Hp} {σ : St} {ρ : Ro} (r : Rl K F0 H0 F H σ ρ) (src : List (Option Nat)) : Rl K F H F H (blk0 src σ) (blkRo src ρ) /\ NoOwn (blkRo src ρ) := by
 have no1 : ∀ (i : Nat) x, (blkRo src ρ)[i]? = some (some x) -> ∃ d, x = S.sh d := fun i x e => by
  unfold blkRo at e
  rw [getElem?_map] at e
  cases h : src[i]? with
  | none => rw [h] at e; cases e
  | some o =>
   rw [h] at e
   cases o with
   | none => cases e
   | some k =>
    simp only [Option.map_some, Option.bind_some] at e
    split at e
    ·cases e; exact ⟨_, rfl⟩
    ·cases e
 have no : NoOwn (blkRo src ρ) := fun i ds => ⟨fun e => (by obtain ⟨d, z⟩ := no1 i _ e; cases z), fun p e => (by obtain ⟨d, z⟩ := no1 i _ e; cases z)⟩
 refine ⟨⟨.refl r.fh, by unfold blk0 blkRo; simp, fun i d e => ?_, fun i ds e => absurd e (no i ds).1, fun i j p ds es _ e => absurd e (no i ds).1, fun i p ds e => absurd e ((no i ds).2 p), fun i j p ds es e => absurd e ((no i ds).2 p), fun i j p q ds es e => absurd e ((no i ds).2 p)⟩, no⟩
 unfold blkRo at e
 unfold blk0
 rw [getElem?_map] at e ⊢
 cases h : src[i]? with
 | none => rw [h] at e; cases e
 | some o =>
  rw [h] at e
  cases o with
  | none => cases e
  | some k =>
   simp only [Option.map_some, Option.bind_some] at e ⊢
   split at e
   ·rename_i d' h'
    cases e
    obtain ⟨v, e1, e2⟩ := r.sh k _ h'
    exact ⟨v, by rw [e1]; rfl, e2⟩
   ·cases e
theorem Rl.other {K : W.Frag} {F0 H0 F H : Hp} {σ : St} {ρ : Ro} (r : Rl K F0 H0 F H σ ρ) (no : NoOwn ρ) {p : Addr} {o : HO} (h0 : H0 p = none) (hF : F p = none) : Rl K F0 H0 F (upd H p o) σ ρ :=
 ⟨⟨r.ext.ff, r.ext.hh.put h0, r.ext.fh.put hF, r.ext.new, r.ext.nf⟩, r.len, r.sh, fun i ds e => absurd e (no i ds).1, r.inj, fun i p ds e => absurd e ((no i ds).2 p), r.obn, r.ob1⟩
theorem Rl.rebase {K : W.Frag} {F1 F H : Hp} {σ : St} {ρ : Ro} {p : Addr} {xs ys : List V} (r : Rl K F1 (upd F1 p (.lst xs)) F H σ ρ) (hF : F p = none) (hF1 : F1 p = none) : Rl K F1 (upd F1 p (.lst ys)) F (upd H p (.lst ys)) σ ρ := by
 have ne : ∀ q, upd F1 p (.lst xs) q = none -> q ≠ p := fun q z w => by rw [w, upd_same] at z; cases z
 refine ⟨⟨r.ext.ff, fun b u e => ?_, r.fh.put hF, fun b e n => ?_, r.ext.nf⟩, r.len, r.sh, fun i ds e => ?_, r.inj, fun i q ds e => ?_, r.obn, r.ob1⟩
 ·by_cases hb : b = p
  ·subst hb; rw [upd_same] at e ⊢; exact e
  ·rw [upd_ne hb] at e ⊢
   exact r.ext.hh b u (by rw [upd_ne hb]; exact e)
 ·have hb : b ≠ p := fun w => by rw [w, hF] at n; exact n rfl
  rw [upd_ne hb]; exact e
 ·obtain ⟨q, zs, a, b, c, d, z⟩ := r.own i ds e
  have hq := ne q z
  rw [upd_ne hq] at z
  exact ⟨q, zs, a, b, by rw [upd_ne hq]; exact c, d, by rw [upd_ne hq]; exact z⟩
 ·obtain ⟨a, b, z, zs, c, d⟩ := r.ob i q ds e
  have hq := ne q z
  rw [upd_ne hq] at z
  exact ⟨a, b, by rw [upd_ne hq]; exact z, zs, by rw [upd_ne hq]; exact c, d⟩
theorem Ext.acc {F H F' H' : Hp} {p : Addr} {o : HO} (x : Ext F H F' H') (hp : H p = none) (hF : F' p = none) : Ext F H F' (upd H' p o) := ⟨x.ff, x.hh.put hp, x.fh.put hF, x.new, x.nf⟩
theorem Ext.stay {F' H' F3 H3 : Hp} {p : Addr} {o : HO} (x3 : Ext F' H' F3 H3) (hF' : F' p = none) (hH' : H' p = some o) : F3 p = none := by
 cases qq : F3 p with
 | none => rfl
 | some u => have := x3.new p hF' (by rw [qq]; simp); rw [this] at hH'; cases hH'
theorem Rl.noB {K : W.Frag} {F H : Hp} {σ : St} {ρ : Ro} {p : Addr} (r : Rl K F H F H σ ρ) (no : NoOwn ρ) (hp : H p = none) : Rl K F (upd F p (.lst [])) F (upd H p (.lst [])) σ ρ :=
 ⟨⟨Same.refl F, r.fh.put2, r.fh.put (r.fh.free hp), fun b e n => absurd e n, fun _ _ _ z => z⟩, r.len, r.sh, fun i ds e => absurd e (no i ds).1, r.inj, fun i p ds e => absurd e ((no i ds).2 p), r.obn, r.ob1⟩
theorem compD_cons {g : Tg} {c : MB} {elt : ME} {d : D} {ds acc out : List D} {ρ : Ro} (h : compD g c elt (d :: ds) ρ acc = some out) : ∃ ρ1, tgD g d ρ = some ρ1 /\ ((c ρ1 = some false /\ compD g c elt ds ρ1 acc = some out) \/ ∃ x, c ρ1 = some true /\ elt ρ1 = some x /\ acc.length < sizeLine /\ compD g c elt ds ρ1 (acc ++ [x]) = some out) := by
 rw [compD] at h
 cases h2 : tgD g d ρ with
 | none => rw [h2] at h; cases h
 | some ρ1 =>
  rw [h2] at h
  simp only at h
  refine ⟨ρ1, rfl, ?_⟩
  cases h3 : c ρ1 with
  | none => rw [h3] at h; cases h
  | some k =>
   rw [h3] at h
   cases k with
   | false => exact .inl ⟨rfl, h⟩
   | true =>
    simp only at h
    cases h4 : elt ρ1 with
    | none => rw [h4] at h; cases h
    | some x =>
     rw [h4] at h
     simp only at h
     by_cases hz : acc.length < sizeLine
     ·rw [if_pos hz] at h; exact .inr ⟨x, rfl, rfl, hz, h⟩
     ·rw [if_neg hz] at h; cases h
theorem comp_loop {K : PySem.W.Frag} {src : List (Option Nat)} {g : Tg} {c : MB} {elt : ME} {its out : List D} {F1 H1 : Hp} {σ : St} {ρb : Ro} {p : Addr} {J : It} {Q : VK} (f1 : Same F1 H1) (hp : H1 p = none) (rb : Rl K F1 (upd F1 p (.lst [])) F1 (upd H1 p (.lst [])) (blk0 src σ) ρb) (I : ItD K F1 J its) (e : compD g c elt its ρb [] = some out)
  (q : ∀ xs F' H', Ext F1 H1 F' H' -> F' p = none -> H' p = some (.lst xs) -> Reps K F' xs out -> Q (.ref p) H') :
  ∃ W : Nat -> Nat -> St -> Hp -> Prop, (∃ m, W 0 m (blk0 src σ) (upd H1 p (.lst []))) /\ ∀ i m σ' H', W i m σ' H' ->
   (J.stop i H' /\ Q (.ref p) H') \/ (J.go i H' /\ ∃ N : St -> Hp -> Prop, (∀ σ2 H2, N σ2 H2 -> ∃ m', m' < m /\ W (i + 1) m' σ2 H2) /\ ∀ x H2, J.yld i H' x H2 -> TGd K g x σ' H2 fun σ3 H3 => TC K c σ3 H3 fun b H4 =>
    if b = true then TD K elt σ3 H4 fun y H5 => ∃ xs, H5 p = some (.lst xs) /\ xs.length < sizeLine /\ N σ3 (upd H5 p (.lst (xs ++ [y]))) else N σ3 H4) := by
 have hF1 : F1 p = none := f1.free hp
 refine ⟨fun i m σ' H' => ∃ F' ρ' acc xs, Rl K F1 (upd F1 p (.lst xs)) F' H' σ' ρ' /\ Ext F1 H1 F' H' /\ H' p = some (.lst xs) /\ F' p = none /\ Reps K F' xs acc /\ i <= its.length /\ m = its.length - i /\ compD g c elt (its.drop i) ρ' acc = some out,
  ⟨_, F1, ρb, [], [], rb, (Ext.refl f1).acc hp hF1, upd_same, hF1, .nil, Nat.zero_le _, rfl, e⟩, ?_⟩
 clear rb e
 rintro i m σ' H' ⟨F', ρ', acc, xs, rl', xe, hH', hF', ra, hi', rfl, e'⟩
 by_cases hlt : i < its.length
 ·right
  have hd := getElem?_eq_getElem hlt
  refine ⟨I.go i F' H' xe.ff rl'.fh hlt, fun σ2 H2 => ∃ F2 ρ2 acc2 xs2, Rl K F1 (upd F1 p (.lst xs2)) F2 H2 σ2 ρ2 /\ Ext F1 H1 F2 H2 /\ H2 p = some (.lst xs2) /\ F2 p = none /\ Reps K F2 xs2 acc2 /\ compD g c elt (its.drop (i + 1)) ρ2 acc2 = some out, ?_, fun x H2 y => ?_⟩
  ·rintro σ2 H2 ⟨F2, ρ2, acc2, xs2, b1, b2, b3, b4, b5, b6⟩
   exact ⟨its.length - (i + 1), Nat.sub_lt_sub_left hlt (Nat.lt_succ_self i), F2, ρ2, acc2, xs2, b1, b2, b3, b4, b5, hlt, rfl, b6⟩
  ·obtain ⟨F2, x2, r2⟩ := I.yld i F' H' x H2 _ xe.ff rl'.fh hd y
   rw [drop_get hd] at e'
   obtain ⟨ρ1, h2, e3⟩ := compD_cons e'
   clear e' I q y hd
   refine ⟨F1, _, F2, ρ', _, ρ1, rl'.go x2, r2, h2, fun F3 H3 σ3 rl3 x3 => ?_⟩
   have x23 := x2.trans x3
   rcases e3 with ⟨h3, e4⟩ | ⟨d, h3, h4, hz, e4⟩
   ·refine ⟨F1, _, F3, ρ1, false, rl3, h3, fun F4 H4 x4 => ?_⟩
    have x24 := x23.trans x4
    exact iteF ⟨F4, ρ1, acc, xs, rl3.go x4, xe.trans x24, x24.hh _ _ hH', x24.stay hF' hH', ra.mono x24.ff, e4⟩
   ·refine ⟨F1, _, F3, ρ1, true, rl3, h3, fun F4 H4 x4 => iteT ⟨F1, _, F4, ρ1, d, rl3.go x4, h4, fun v F5 H5 x5 r5 => ?_⟩⟩
    have x25 := (x23.trans x4).trans x5
    have pn := x25.stay hF' hH'
    exact ⟨xs, x25.hh _ _ hH', by rw [ra.length]; exact hz, F5, ρ1, acc ++ [d], xs ++ [v], ((rl3.go x4).go x5).rebase pn hF1, (xe.trans x25).acc hp pn, upd_same, pn, (ra.mono x25.ff).append (.cons r5 .nil), e4⟩
 ·left
  have hieq : i = its.length := Nat.le_antisymm hi' (Nat.le_of_not_lt hlt)
  subst hieq
  rw [drop_length] at e'
  have e' : some acc = some out := e'
  cases e'
  exact ⟨I.stop F' H' xe.ff rl'.fh, q xs F' H' xe hF' hH' ra⟩
section
variable {X : Cx} {a b c e : Expr} {ma mb : ME} {pos : Pos} {st : Stmt} {rest : List Stmt}
def PTsd (X : Cx) (ifs : List Expr) (c : MB) : Prop := PTs X ifs (TC X.K c)
def cyes : MB := fun _ => some true
theorem ptsd_nil : PTsd X [] cyes := fun pins s σ H Q I hpat => by
 obtain ⟨F0, H0, F, ρ, b, rl, e, q⟩ := hpat
 cases e
 exact pts_nil pins s σ H Q I (q F H (.refl rl.fh))
theorem ptsd_one {ca : MB} (h : PC' X c ca) : PTsd X [c] ca := pts_one h
theorem comp_tf {K : W.Frag} {src : List (Option Nat)} {mi : ML} {g : Tg} {c : MB} {elt : ME} {σ : St} {H : Hp} {Q : VK} (h : TF K (mcomp src mi g c elt) σ H Q) : tComp src (TId K mi) (TGd K g) (TC K c) (TD K elt) σ H Q := by
 obtain ⟨F0, H0, F, ρ, out, rl, e, q⟩ := h
 unfold mcomp at e
 cases h1 : mi ρ with
 | none => rw [h1] at e; cases e
 | some its =>
  rw [h1] at e
  refine ⟨F0, H0, F, ρ, its, rl, h1, fun J F1 H1 x1 I p hp => ?_⟩
  obtain ⟨rb, no⟩ := (rl.go x1).blk src
  exact comp_loop x1.fh hp (rb.noB no hp) I e fun xs F' H' xe hF' hH' ra => q p xs F' H' (x1.trans xe) (x1.hh.free hp) hF' hH' ra
theorem pf_comp {sc : Scope} {N : List Str} {src : List (Option Nat)} {tg elt iter : Expr} {ifs : List Expr} {mi : ML} {g : Tg} {cc : MB} {me : ME} (B : Blk X sc N src) (hc : X.calm = true)
  (hi : PId X tg iter mi) (hg : ∀ C fp s H, PGd (blkCx X sc C N fp s H) tg g) (ht : ∀ C fp s H, PTsd (blkCx X sc C N fp s H) ifs cc) (he : ∀ C fp s H, PD (blkCx X sc C N fp s H) elt me)
  (hs : ∀ x, foldedSetIterable iter X.env x = pure x := by intro _; rfl) :
  PF X (.ListComp elt [⟨tg, iter, ifs, 0⟩] sc pos) (mcomp src mi g cc me) := (pe_comp (g := TGd X.K g) (tc := TC X.K cc) (te := TD X.K me) B hc hi (fun C fp s H => hg C fp s H) (fun C fp s H => ht C fp s H) (fun C fp s H => he C fp s H) hs).imp fun _ _ _ h => comp_tf h
theorem pf_imp {mf : ML} {σ : St} {H : Hp} {Q : VK} (h : TD X.K (mlst mf) σ H Q) : TF X.K mf σ H Q := by
 obtain ⟨F0, H0, F, ρ, d, r, e, q⟩ := h
 unfold mlst at e
 cases hm : mf ρ with
 | none => rw [hm] at e; cases e
 | some ds =>
  rw [hm] at e; cases e
  refine ⟨F0, H0, F, ρ, ds, r, hm, fun p xs F' H' x hp hF hH rs => ?_⟩
  exact q _ (upd F' p (.lst xs)) H' (x.freeze hF hp hH) (.lst (SqL.of upd_same) (rs.mono ((Same.refl F').put hF)))
theorem psd_setC {i : Nat} {src : List (Option Nat)} {mi : ML} {g : Tg} {cc : MB} {me : ME} (h : PS X st (tAsg (tComp src (TId X.K mi) (TGd X.K g) (TC X.K cc) (TD X.K me)) (gName i))) : PSd X st (msetF i (mcomp src mi g cc me)) := asg_f h fun _ _ _ q => comp_tf q
theorem psd_setCs {i : Nat} {src : List (Option Nat)} {mi : ML} {g : Tg} {cc : MB} {me : ME} (h : PS X st (tAsg (tComp src (TId X.K mi) (TGd X.K g) (TC X.K cc) (TD X.K me)) (gName i))) : PSd X st (mset i (mlst (mcomp src mi g cc me))) := asg_d h fun _ _ _ q => comp_tf (pf_imp q)
inductive Rt where
 | sh (d : D) | fr (ds : List D) | pr (d : D) (ds : List D)
abbrev MF := List D -> Option Rt
def okT (K : W.Frag) (F H : Hp) (Q : VK) : Rt -> Prop
 | .sh d => ∀ v F' H', Ext F H F' H' -> Rep K F' v d -> Q v H'
 | .fr ds => ∀ p xs F' H', Ext F H F' H' -> H p = none -> F' p = none -> H' p = some (.lst xs) -> Reps K F' xs ds -> Q (.ref p) H'
 | .pr d ds => ∀ t v p xs F' H', Ext F H F' H' -> H t = none -> H p = none -> t ≠ p -> F' t = none -> F' p = none -> H' t = some (.tup [v, .ref p]) -> H' p = some (.lst xs) -> Rep K F' v d -> Reps K F' xs ds -> Q (.ref t) H'
def spR (K : W.Frag) (n : Nat) (m : MF) : Sp := fun vs H Q _ => vs.length = n /\ ∃ F ds r, Same F H /\ Reps K F vs ds /\ m ds = some r /\ okT K F H Q r
def startS (n : Nat) (ds : List D) : Ro := ds.map (fun d => some (.sh d)) ++ List.replicate (n - ds.length) none
def runB (n : Nat) (m : MS) : MF := fun ds => match m (startS n ds) with
 | some (.nx _) => some (.sh .non)
 | some (.rt d) => some (.sh d)
 | some (.rf es) => some (.fr es)
 | some (.rp d es) => some (.pr d es)
 | _ => none
theorem rl_start {K : W.Frag} {F H : Hp} {N : List Str} {vs : List V} {ds : List D} (s : Same F H) (r : Reps K F vs ds) : Rl K F H F H (start N vs) (startS N.length ds) := by
 have get : ∀ (i : Nat) x, (startS N.length ds)[i]? = some (some x) -> ∃ d, x = S.sh d /\ ds[i]? = some d := fun i x e => by
  unfold startS at e
  by_cases hi : i < ds.length
  ·rw [getElem?_append_left (by simpa using hi), getElem?_map] at e
   cases q : ds[i]? with
   | none => rw [q] at e; cases e
   | some d => rw [q] at e; cases e; exact ⟨d, rfl, rfl⟩
  ·rw [getElem?_append_right (by simpa using hi), getElem?_replicate] at e
   split at e <;> cases e
 refine ⟨.refl s, ?_, fun i d e => ?_, fun i ds e => ?_, fun i j p ds es _ e => ?_, fun i p ds e => ?_, fun i j p ds es e => ?_, fun i j p q ds es e => ?_⟩
 ·unfold start startS; simp [r.length]
 ·obtain ⟨d', e1, e2⟩ := get i _ e
  cases e1
  obtain ⟨v, e3, e4⟩ := r.get e2
  have hl : i < vs.length := (List.getElem?_eq_some_iff.mp e3).1
  refine ⟨v, ?_, e4⟩
  unfold start
  rw [getElem?_append_left (by simpa using hl), getElem?_map, e3]; rfl
 ·obtain ⟨d', e1, _⟩ := get i _ e
  cases e1
 ·obtain ⟨d', e1, _⟩ := get i _ e
  cases e1
 ·obtain ⟨d', e1, _⟩ := get i _ e
  cases e1
 ·obtain ⟨d', e1, _⟩ := get i _ e
  cases e1
 ·obtain ⟨d', e1, _⟩ := get i _ e
  cases e1
theorem Fun.okD {P : Program} {w : World} {K : W.Frag} {mg : Str -> Option Value} {base : Heap} {x qual : Str} {st : Stmt} {f : Addr} {fd : FuncData} {N ps : List Str} {k : Nat} {m : MS} (Fn : Fun K x qual st f fd) (Sc : FnScope N ps (defScope st))
  (hbody : ∀ (cdv : Value) (A : Around) (outer : List Env) (s : Shared) (H : Hp) (E : XK), Room k (A.deeper (envOfC qual (defScope st) s.heap.objs.size f cdv)) -> PSsd (cxOf CX0 P w K mg base N qual (defScope st) f cdv A outer s H E).nox (defBody st) m) :
  FnOk P w K mg base CX0 (k + 1) f fd ps (spR K ps.length (runB N.length m)) := by
 refine Fn.ok Sc (fun vs H Q E h => h.1) fun cdv A outer s H vs Q E hr h => ?_
 obtain ⟨hl, F, ds, r, sf, rs, e, ok⟩ := h
 unfold runB at e
 cases h1 : m (startS N.length ds) with
 | none => rw [h1] at e; cases e
 | some o =>
  rw [h1] at e
  refine ⟨_, hbody cdv A outer s H E hr, F, H, F, startS N.length ds, o, rl_start sf rs, h1, ?_⟩
  cases o with
  | nx ρ => cases e; exact fun F' H' σ' rl _ => ok .non F' H' rl.ext .non
  | rt d => cases e; exact ok
  | rf es => cases e; exact ok
  | rp d es => cases e; exact ok
  | rg d p r => cases e
  | rgf d p r => cases e
  | bk ρ => cases e
  | ct ρ => cases e
@[irreducible] def mcall (f : MF) (m : ML) : ME := fun ρ => (m ρ).bind fun ds => match f ds with | some (.sh d) => some d | some (.fr es) => some (.lst es) | some (.pr d es) => some (.tup [d, .lst es]) | none => none
variable {E : XK} {es : List Expr} {mf : MF} {m : ML}
theorem pd_call {n : Nat} (h : ∀ t, PA X es t -> PE X e (tCall (spR X.K n mf) [] E t)) (hl : es.length = n) (ha : PAs X es m) (hm : ∀ ρ ds, m ρ = some ds -> ds.length = es.length) : PD X e (mcall mf m) := (h _ ha).imp fun σ H Q hpat => by
 obtain ⟨F0, H0, F, ρ, d, rl, e, q⟩ := hpat
 unfold mcall at e
 cases h1 : m ρ with
 | none => rw [h1] at e; cases e
 | some ds =>
  rw [h1] at e
  refine ⟨F0, H0, F, ρ, ds, rl, h1, fun vs F1 H1 x1 r1 => ?_⟩
  dsimp only [Option.bind] at e
  show spR X.K n mf (vs ++ []) H1 Q E
  rw [append_nil]
  refine ⟨by rw [r1.length, hm ρ ds h1, hl], F1, ds, ?_⟩
  split at e
  ·rename_i d' h2
   cases e
   exact ⟨_, x1.fh, r1, h2, fun v F2 H2 x2 r2 => q v F2 H2 (x1.trans x2) r2⟩
  ·rename_i es' h2
   cases e
   exact ⟨_, x1.fh, r1, h2, fun p xs F2 H2 x2 hp hF hH r2 => q _ (upd F2 p (.lst xs)) H2 (x1.trans (x2.freeze hF hp hH)) (.lst (SqL.of upd_same) (r2.mono ((Same.refl F2).put hF)))⟩
  ·rename_i d' es' h2
   cases e
   refine ⟨_, x1.fh, r1, h2, fun t v p xs F2 H2 x2 ht hp hne hFt hFp hHt hHp rv rs => ?_⟩
   have x3 := x2.freeze hFp hp hHp
   have hFt' : upd F2 p (.lst xs) t = none := by rw [upd_ne hne]; exact hFt
   have s2 : Same F2 (upd F2 p (.lst xs)) := (Same.refl F2).put hFp
   have s3 : Same (upd F2 p (.lst xs)) (upd (upd F2 p (.lst xs)) t (.tup [v, .ref p])) := (Same.refl _).put hFt'
   exact q _ (upd (upd F2 p (.lst xs)) t (.tup [v, .ref p])) H2 (x1.trans (x3.freeze hFt' ht hHt)) (.tup (SqT.of upd_same) (.cons (rv.mono (s2.trans s3)) (.cons (.lst (SqL.of (by rw [upd_ne (Ne.symm hne)]; exact upd_same)) (rs.mono (s2.trans s3))) .nil)))
  ·cases e
theorem anil_len (ρ : Ro) (ds : List D) (h : anil ρ = some ds) : ds.length = 0 := by cases h; rfl
theorem acons_len {x : ME} {r : ML} {n : Nat} (hr : ∀ ρ ds, r ρ = some ds -> ds.length = n) (ρ : Ro) (ds : List D) (h : acons x r ρ = some ds) : ds.length = n + 1 := by
 obtain ⟨d, es, _, h2, rfl⟩ := acons_some h
 rw [length_cons, hr ρ es h2]
end
end
section
section
variable {X : Cx} {a b c e : Expr} {ma mb : ME} {pos : Pos}
def bl2 (g : Bool -> Bool -> Bool) : D -> D -> Option D
 | .bl i, .bl j => some (.bl (g i j))
 | _, _ => none
def rRng1 : List V -> Hp -> VK -> Prop := fun vs H Q => ∃ j : Int, vs = [.int j] /\ ∀ p, H p = none -> Q (.ref p) (upd H p (.rng 0 j))
theorem call_rng1 : CallR X (.type "range") rRng1 := by
 intro pins s σ H xs us Q I r h
 obtain ⟨j, rfl, q⟩ := h
 obtain ⟨u, rfl, t, rfl⟩ := vals1 r
 refine call_range_1 ⟨.ref s.heap.objs.size, _, I.laid (o := .rng 0 j) (fun b o e => Heap.get?_push_of_some _ e) (Nat.le_refl _) ⟨_, _, _, Heap.get?_push_size _ rfl⟩, rfl, q _ I.fresh⟩
theorem reps_ints {K : W.Frag} {F : Hp} : ∀ ns : List Int, Reps K F (ns.map V.int) (ns.map D.int)
 | [] => .nil
 | n :: ns => .cons (.int n) (reps_ints ns)
theorem sp_Z16 {K : W.Frag} {m : MF} (h : ∀ ns : List Int, ns.length <= 63 -> m [.lst (ns.map .int)] = some (.sh (.bl true))) (H : Hp) (a : Addr) (ns : List Int) (hl : ns.length <= 63) (hS : SqL K H a (ns.map V.int)) (E : XK) :
  spR K 1 m [.ref a] H (fun v _ => v = .bl true) E :=
 ⟨rfl, H, _, _, Same.refl H, .cons (.lst hS (reps_ints ns)) .nil, h ns hl, fun v F' H' _ r => by cases r; rfl⟩
end
end
section
def blkOk (fsc : Scope) (fN : List Str) (sc : Scope) (N : List Str) (src : List (Option Nat)) : Bool :=
 (sc.kind == .function) && sc.names.all (fun y => y.2 != .cell) && sc.names.all (fun y => y.2 != .local || sc.names.lookup y.1 == some .local)
  && sc.names.all (fun y => y.2 != .free || (fsc.names.lookup y.1 == some .cell || fsc.names.lookup y.1 == some .free)) && (src.length == N.length)
  && (List.range src.length).all fun j => match src[j]? with
   | some (some i) => match N[j]? with
    | some x => fN[i]? == some x && sc.names.lookup x == some .free
    | none => false
   | _ => true
theorem blk_of {X : Cx} {sc : Scope} {N : List Str} {src : List (Option Nat)} (fsc : Scope) (fN : List Str) (h1 : X.env.scope = fsc) (h2 : X.N = fN) (h : blkOk fsc fN sc N src = true) : Blk X sc N src := by
 unfold blkOk at h
 simp only [Bool.and_eq_true, all_eq_true, beq_iff_eq, Bool.or_eq_true, bne_iff_ne, ne_eq] at h
 obtain ⟨⟨⟨⟨⟨a1, a2⟩, a3⟩, a4⟩, a5⟩, a6⟩ := h
 refine ⟨a1, a2, fun y hy hk => ?_, fun y hy hk => ?_, fun j i e => ?_, a5⟩
 ·rcases a3 y hy with z | z
  ·exact absurd hk z
  ·exact z
 ·have k : ∀ x, X.env.kindOf x = fsc.names.lookup x := fun x => by rw [<- h1]; rfl
  rw [k]
  rcases a4 y hy with z | z
  ·exact absurd hk z
  ·exact z
 ·have hj : j < src.length := (List.getElem?_eq_some_iff.mp e).1
  have := a6 j (List.mem_range.mpr hj)
  rw [e] at this
  simp only at this
  cases hx : N[j]? with
  | none => rw [hx] at this; cases this
  | some x =>
   rw [hx] at this
   simp only [Bool.and_eq_true, beq_iff_eq] at this
   exact ⟨x, rfl, by rw [h2]; exact this.1, this.2⟩
end
section
theorem pf_sl {X : Cx} {a : Expr} {ml : ML} {lo hi : Option Expr} {l h : MO} {p2 pos : Pos} (ha : PB X a ml) (hl : POs X lo l) (hh : POs X hi h) : PF X (.Subscript a (.Slice lo hi none p2) pos) (mcut ml l h) := pf_cut ha hl hh (pe_slice sl_list ha hl hh)
end
section
def zipE (f : D -> D -> Option Bool) : List D -> List D -> Option Bool
 | d :: ds, e :: es => (f d e).bind fun a => (zipE f ds es).bind fun b => some (a && b)
 | _, _ => some true
def eqF : Nat -> D -> D -> Option Bool
 | 0, _, _ => none
 | n + 1, .lst ds, .lst es => if ds.length = es.length then zipE (eqF n) ds es else some false
 | n + 1, .tup ds, .tup es => (zipE (eqF n) ds es).map fun b => b && ds.length == es.length
 | _ + 1, d, e => eqS d e
theorem zipE_all {f : D -> D -> Option Bool} : ∀ {ds es : List D} {k : Bool}, zipE f ds es = some k -> ∃ g : Nat -> Bool, (∀ j d e, ds[j]? = some d -> es[j]? = some e -> f d e = some (g j)) /\ k = (List.range (min ds.length es.length)).all g
 | [], es, k, h => by
  have h : some true = some k := by simpa [zipE] using h
  cases h
  exact ⟨fun _ => true, by simp, by simp⟩
 | _ :: _, [], k, h => by
  have h : some true = some k := by simpa [zipE] using h
  cases h
  exact ⟨fun _ => true, by simp, by simp⟩
 | d :: ds, e :: es, k, h => by
  unfold zipE at h
  cases h1 : f d e with
  | none => rw [h1] at h; cases h
  | some a =>
   rw [h1] at h
   cases h2 : zipE f ds es with
   | none => rw [h2] at h; cases h
   | some b =>
    rw [h2] at h
    have h : some (a && b) = some k := h
    cases h
    obtain ⟨g, q1, q2⟩ := zipE_all h2
    refine ⟨fun j => match j with | 0 => a | j + 1 => g j, ?_, ?_⟩
    ·intro j d' e' hd he
     cases j with
     | zero => simp at hd he; subst hd he; exact h1
     | succ j => exact q1 j d' e' (by simpa using hd) (by simpa using he)
    ·rw [q2, length_cons, length_cons, Nat.add_min_add_right, range_succ_eq_map, all_cons, all_map]
     rfl
section
variable {X : Cx} {pins : List (Addr × Obj)} {σ : St} {H : Hp} {s : Shared}
theorem zipE_same {f : D -> D -> Option Bool} (hf : ∀ {v : V} {d e : D} {k : Bool}, Rep X.K H v d -> Rep X.K H v e -> f d e = some k -> k = true) : ∀ {vs : List V} {ds es : List D} {k : Bool}, Reps X.K H vs ds -> Reps X.K H vs es -> zipE f ds es = some k -> k = true
 | _, _, _, _, .nil, .nil, h => by simp [zipE] at h; exact h
 | _ :: _, d :: ds, e :: es, k, .cons r1 s1, .cons r2 s2, h => by
  unfold zipE at h
  cases h1 : f d e with
  | none => rw [h1] at h; cases h
  | some a =>
   rw [h1] at h
   cases h2 : zipE f ds es with
   | none => rw [h2] at h; cases h
   | some b =>
    rw [h2] at h
    have h : some (a && b) = some k := h
    cases h
    rw [hf r1 r2 h1, zipE_same hf s1 s2 h2]; rfl
theorem Rep.eqT (I : Inv X pins σ H s) : ∀ (n : Nat) {v : V} {d e : D} {k : Bool}, Rep X.K H v d -> Rep X.K H v e -> eqF n d e = some k -> k = true
 | 0, _, _, _, _, _, _, h => by simp [eqF] at h
 | n + 1, v, d, e, k, r1, r2, h => by
  cases r1 with
  | non => cases r2; simp [eqF, eqS] at h; exact h
  | bl b => cases r2; simp [eqF, eqS] at h; exact h
  | int b => cases r2; simp [eqF, eqS] at h; exact h
  | str b => cases r2; simp [eqF, eqS] at h; exact h
  | lst sq rs =>
   cases r2 with
   | lst sq2 rs2 =>
    have e := I.list_inj sq sq2
    subst e
    simp only [eqF] at h
    split at h
    ·exact zipE_same (fun a b c => Rep.eqT I n a b c) rs rs2 h
    ·rename_i hl; exact absurd (rs.length.symm.trans rs2.length) hl
   | _ => cases h
  | tup sq rs =>
   cases r2 with
   | tup sq2 rs2 =>
    have e := I.tuple_inj sq sq2
    subst e
    simp only [eqF] at h
    cases hz : zipE (eqF n) _ _ with
    | none => rw [hz] at h; cases h
    | some kk =>
     rw [hz] at h
     have h := Option.some.inj h
     rw [<- h, zipE_same (fun a b c => Rep.eqT I n a b c) rs rs2 hz, rs.length.symm.trans rs2.length]
     simp
   | _ => cases h
  | _ => cases h
open PySem.SeqAt in
theorem eqS_at {K : W.Frag} {H : Hp} {A : Around} {s : Shared} {x y : V} {v u : Value} {d e : D} {k : Bool} (r1 : Rep K H x d) (r2 : Rep K H y e) (q1 : RelV x v) (q2 : RelV y u) (h : eqS d e = some k) : EqAt A s v u k /\ RcAt A s v u k /\ RcNeAt A s v u (!k) := by
 obtain ⟨k', hk'⟩ := eqS_sym d e k h
 rw [eqS_l h r1] at q1
 rw [eqS_l hk' r2] at q2
 clear r1 r2 hk'
 cases d with
 | non =>
  cases q1
  cases e with
  | non => cases q2; cases h; exact ⟨EqAt.same _, .none_none, .none_none⟩
  | bl b => cases q2; cases h; exact ⟨.none_bool _, .none_bool _, .none_bool _⟩
  | int b => obtain ⟨t, rfl⟩ := q2; cases h; exact ⟨.none_int _ _, .none_int _ _, .none_int _ _⟩
  | str b => obtain ⟨t, rfl⟩ := q2; cases h; exact ⟨.none_str _ _, .none_str _ _, .none_str _ _⟩
  | _ => cases h
 | bl i =>
  cases q1
  cases e with
  | non => cases q2; cases h; exact ⟨.bool_none _, .bool_none _, .bool_none _⟩
  | bl b => cases q2; cases h; exact ⟨.bool_bool _ _, .bool_bool _ _, .bool_bool _ _⟩
  | str b => obtain ⟨t, rfl⟩ := q2; cases h; exact ⟨.bool_str _ _ _, .bool_str _ _ _, .bool_str _ _ _⟩
  | _ => cases h
 | int i =>
  obtain ⟨t0, rfl⟩ := q1
  cases e with
  | non => cases q2; cases h; exact ⟨.int_none _ _, .int_none _ _, .int_none _ _⟩
  | int b => obtain ⟨t, rfl⟩ := q2; cases h; exact ⟨.int_int _ _ _ _, .int_int _ _ _ _, .int_int _ _ _ _⟩
  | str b => obtain ⟨t, rfl⟩ := q2; cases h; exact ⟨.int_str _ _ _ _, .int_str _ _ _ _, .int_str _ _ _ _⟩
  | _ => cases h
 | str i =>
  obtain ⟨t0, rfl⟩ := q1
  cases e with
  | non => cases q2; cases h; exact ⟨.str_none _ _, .str_none _ _, .str_none _ _⟩
  | bl b => cases q2; cases h; exact ⟨.str_bool _ _ _, .str_bool _ _ _, .str_bool _ _ _⟩
  | int b => obtain ⟨t, rfl⟩ := q2; cases h; exact ⟨.str_int _ _ _ _, .str_int _ _ _ _, .str_int _ _ _ _⟩
  | str b => obtain ⟨t, rfl⟩ := q2; cases h; exact ⟨.str_str _ _ _ _, .str_str _ _ _ _, .str_str _ _ _ _⟩
  | _ => cases h
 | _ => cases h
theorem eqF_inv {n : Nat} {d e : D} {k : Bool} (h : eqF (n + 1) d e = some k) : eqS d e = some k \/ (∃ ds es, d = .lst ds /\ e = .lst es /\ (if ds.length = es.length then zipE (eqF n) ds es else some false) = some k) \/ ∃ ds es kk, d = .tup ds /\ e = .tup es /\ zipE (eqF n) ds es = some kk /\ (kk && ds.length == es.length) = k := by
 cases d with
 | lst ds =>
  cases e with
  | lst es => exact .inr (.inl ⟨ds, es, rfl, rfl, h⟩)
  | _ => exact .inl h
 | tup ds =>
  cases e with
  | tup es =>
   have h : ((zipE (eqF n) ds es).map fun b => b && ds.length == es.length) = some k := h
   cases hz : zipE (eqF n) ds es with
   | none => rw [hz] at h; cases h
   | some kk => rw [hz] at h; exact .inr (.inr ⟨ds, es, kk, rfl, rfl, hz, Option.some.inj h⟩)
  | _ => exact .inl h
 | _ => exact .inl h
theorem items_at {K : W.Frag} {H : Hp} {A : Around} {s : Shared} {n : Nat} {xs ys : List V} {ds es : List D} {its its2 : List Value} {g : Nat -> Bool} (ih : ∀ {x y : V} {v u : Value} {d e : D} {k : Bool}, Rep K H x d -> Rep K H y e -> RelV x v -> RelV y u -> eqF n d e = some k -> PySem.SeqAt.EqAt A s v u k) (rs : Reps K H xs ds) (rs2 : Reps K H ys es) (vr : Vals xs its) (vr2 : Vals ys its2)
  (g1 : ∀ (j : Nat) d e, ds[j]? = some d -> es[j]? = some e -> eqF n d e = some (g j)) (j : Nat) (h1 : j < its.toArray.size) (h2 : j < its2.toArray.size) : PySem.SeqAt.EqAt A s its.toArray[j] its2.toArray[j] (g j) := by
 have z1 : its.length = ds.length := by rw [<- vr.length, rs.length]
 have z2 : its2.length = es.length := by rw [<- vr2.length, rs2.length]
 simp only [size_toArray] at h1 h2
 obtain ⟨d', hd'⟩ : ∃ d', ds[j]? = some d' := ⟨_, getElem?_eq_getElem (z1 ▸ h1)⟩
 obtain ⟨e', he'⟩ : ∃ e', es[j]? = some e' := ⟨_, getElem?_eq_getElem (z2 ▸ h2)⟩
 obtain ⟨v', hv', rv'⟩ := rs.get hd'
 obtain ⟨u', hu', ru'⟩ := rs2.get he'
 obtain ⟨p, hp, rp⟩ := vr.get hv'
 obtain ⟨p2, hp2, rp2⟩ := vr2.get hu'
 have e1 : its.toArray[j] = p := by
  rw [getElem?_eq_getElem h1] at hp
  simpa using hp
 have e2 : its2.toArray[j] = p2 := by
  rw [getElem?_eq_getElem h2] at hp2
  simpa using hp2
 rw [e1, e2]
 exact ih rv' ru' rp rp2 (g1 j d' e' hd' he')
open PySem.SeqAt in
theorem eq_at (I : Inv X pins σ H s) : ∀ (n : Nat) {A : Around} {x y : V} {v u : Value} {d e : D} {k : Bool}, A.units + n < cLine -> Rep X.K H x d -> Rep X.K H y e -> RelV x v -> RelV y u -> eqF n d e = some k -> EqAt A s v u k /\ RcAt A s v u k /\ RcNeAt A s v u (!k)
 | 0, A, x, y, v, u, d, e, k, hu, r1, r2, q1, q2, h => by simp [eqF] at h
 | n + 1, A, x, y, v, u, d, e, k, hu, r1, r2, q1, q2, h => by
  have hu0 : A.units < cLine := by omega
  have hu1 : A.in1.units + n < cLine := by show A.units + 1 + n < cLine; omega
  rcases eqF_inv h with h1 | ⟨ds, es, rfl, rfl, h1⟩ | ⟨ds, es, kk, rfl, rfl, hz, hk⟩
  ·exact eqS_at r1 r2 q1 q2 h1
  ·obtain ⟨a, xs, rfl, sq, rs⟩ := r1.l'
   obtain ⟨b, ys, rfl, sq2, rs2⟩ := r2.l'
   cases q1; cases q2
   obtain ⟨its, vr, ⟨o, m, ho, hc, _, hd⟩, _⟩ := I.list sq
   obtain ⟨its2, vr2, ⟨o2, m2, ho2, hc2, _, hd2⟩, _⟩ := I.list sq2
   have L1 : s.heap.IsList a its.toArray := ⟨o, ho, hc, m, hd⟩
   have L2 : s.heap.IsList b its2.toArray := ⟨o2, ho2, hc2, m2, hd2⟩
   clear ho hc hd ho2 hc2 hd2
   have z1 : its.length = ds.length := by rw [<- vr.length, rs.length]
   have z2 : its2.length = es.length := by rw [<- vr2.length, rs2.length]
   have main : RcAt A s (.ref a) (.ref b) k /\ RcNeAt A s (.ref a) (.ref b) (!k) := by
    by_cases hl : ds.length = es.length
    ·rw [if_pos hl] at h1
     obtain ⟨g, g1, g2⟩ := zipE_all h1
     have he := items_at (fun a b c d e => (eq_at I n hu1 a b c d e).1) rs rs2 vr vr2 g1
     have hz : its.toArray.size = its2.toArray.size := by simp only [size_toArray]; rw [z1, z2, hl]
     have hk : k = (List.range its.toArray.size).all g := by
      rw [g2]; simp only [size_toArray]; rw [z1, hl, Nat.min_self]
     rw [hk]
     exact ⟨.lists L1 L2 hz hu0 he, .lists L1 L2 hz hu0 he⟩
    ·rw [if_neg hl] at h1
     cases h1
     have hz : (its.toArray.size != its2.toArray.size) = true := by simp only [size_toArray]; rw [z1, z2]; exact bne_iff_ne.mpr hl
     exact ⟨.lists_lengths L1 L2 hz hu0, .lists_lengths L1 L2 hz hu0⟩
   refine ⟨?_, main⟩
   by_cases hab : a = b
   ·subst hab
    rw [Rep.eqT I (n + 1) (.lst sq rs) (.lst sq2 rs2) h]
    exact EqAt.same _
   ·exact .of_refs hab main.1
  ·obtain ⟨a, xs, rfl, sq, rs⟩ := r1.t'
   obtain ⟨b, ys, rfl, sq2, rs2⟩ := r2.t'
   cases q1; cases q2
   obtain ⟨its, vr, ⟨o, ho, hc, m, hd⟩, _⟩ := I.tuple sq
   obtain ⟨its2, vr2, ⟨o2, ho2, hc2, m2, hd2⟩, _⟩ := I.tuple sq2
   have L1 : s.heap.IsTuple a its.toArray := ⟨o, ho, hc, m, hd⟩
   have L2 : s.heap.IsTuple b its2.toArray := ⟨o2, ho2, hc2, m2, hd2⟩
   clear ho hc hd ho2 hc2 hd2
   have z1 : its.length = ds.length := by rw [<- vr.length, rs.length]
   have z2 : its2.length = es.length := by rw [<- vr2.length, rs2.length]
   have main : RcAt A s (.ref a) (.ref b) k /\ RcNeAt A s (.ref a) (.ref b) (!k) := by
    obtain ⟨g, g1, g2⟩ := zipE_all hz
    have he := items_at (fun a b c d e => (eq_at I n hu1 a b c d e).1) rs rs2 vr vr2 g1
    have hk : k = ((List.range (min its.toArray.size its2.toArray.size)).all g && its.toArray.size == its2.toArray.size) := by
     rw [<- hk, g2]; simp only [size_toArray]; rw [z1, z2]
    rw [hk]
    exact ⟨.tuples L1 L2 hu0 he, .tuples L1 L2 hu0 he⟩
   refine ⟨?_, main⟩
   by_cases hab : a = b
   ·subst hab
    rw [Rep.eqT I (n + 1) (.tup sq rs) (.tup sq2 rs2) h]
    exact EqAt.same _
   ·exact .of_refs hab main.1
end
end
section
section
variable {X : Cx} {a b c e : Expr} {ma mb : ME} {la lb : ML} {pos : Pos}
def rEqF (K : W.Frag) (neg : Bool) : R2 := fun x y H Q => ∃ d e k, Rep K H x d /\ Rep K H y e /\ eqF 8 d e = some k /\ Q (.bl (if neg then !k else k)) H
theorem op_eqF (hu : X.A.units + 64 < cLine) : OpR X (compareOp .Eq) (rEqF X.K false) := by
 intro pins s σ H x y v u Q I rx ry h
 obtain ⟨d, e, k, r1, r2, h, q⟩ := h
 exact (eq_at I 8 (by omega) r1 r2 rx ry h).2.1 X.prog X.w _ _ ⟨.bl k, H, I, rfl, q⟩
def eqFD (neg : Bool) (d e : D) : Option D := (eqF 8 d e).map fun k => .bl (if neg then !k else k)
@[irreducible] def meqB (neg : Bool) (x y : ML) : ME := fun ρ => (x ρ).bind fun ds => (y ρ).bind fun es => eqFD neg (.lst ds) (.lst es)
theorem eqB_d {neg : Bool} {σ : St} {H : Hp} {Q : VK} (h : TD X.K (meqB neg la lb) σ H Q) : tOp (rEqF X.K neg) (TB X.K la) (TB X.K lb) σ H Q := by
 obtain ⟨F0, H0, F, ρ, g, rl, e, q⟩ := h
 unfold meqB at e
 cases h1 : la ρ with
 | none => rw [h1] at e; cases e
 | some ds =>
  cases h2 : lb ρ with
  | none => rw [h1, h2] at e; cases e
  | some es =>
   rw [h1, h2] at e
   have e : eqFD neg (.lst ds) (.lst es) = some g := e
   refine ⟨F0, H0, F, ρ, ds, rl, h1, fun p xs F1 H1 x1 s1 r1 => ⟨F0, H0, F1, ρ, es, rl.go x1, h2, fun p2 xs2 F2 H2 x2 s2 r2 => ?_⟩⟩
   unfold eqFD at e
   cases hk : eqF 8 (.lst ds) (.lst es) with
   | none => rw [hk] at e; cases e
   | some k =>
    rw [hk] at e; cases e
    exact ⟨_, _, k, .lst (x2.hh.seq s1) (r1.mono (x2.ff.trans x2.fh)), .lst s2 (r2.mono x2.fh), hk, q _ F2 H2 (x1.trans x2) (.bl _)⟩
theorem pd_eqB {op : CmpOp} {neg : Bool} (ho : OpR X (compareOp op) (rEqF X.K neg)) (ha : PB X a la) (hb : PB X b lb) (hm : behindInMarks op b = false) : PD X (.Compare a [op] [b] pos) (meqB neg la lb) := (pe_cmpR ho ha hb hm).imp fun _ _ _ h => eqB_d h
def tyD : D -> String
 | .non => "NoneType" | .bl _ => "bool" | .int _ => "int" | .str _ => "str" | .lst _ => "list" | .tup _ => "tuple" | .exc _ => "?" | .ptr _ => "?" | .obj _ _ _ => "?"
def kitB (t c : String) : Option Bool := if t = "?" then none else if (Value.type t == Value.type c) = true then some true else if W.kitMeta c = true then (fastBuiltinMro t).map (·.contains (Value.type c)) else none
theorem kit_ty {K : W.Frag} {t c : String} {k : Bool} (h : kitB t c = some k) : t ≠ "?" /\ W.kitOne K (.type t) (.type c) = some k := by
 unfold kitB at h
 split at h
 ·cases h
 ·rename_i z; exact ⟨z, h⟩
theorem isi_rep {pins : List (Addr × Obj)} {σ : St} {H : Hp} {s : Shared} {A : Around} {E : Value -> Shared -> Prop} {Q : Value -> Shared -> Prop} {c : Value} {k : Bool} {x : V} {d : D} {u : Value} (I : Inv X pins σ H s) (rx : RelV x u) (r : Rep X.K H x d)
  (e : tyD d ≠ "?" /\ W.kitOne X.K (.type (tyD d)) c = some k) (h : ∀ tk, Q (.bool k) { s with toks := tk }) : wpAny (model X.prog X.w) A (call (.builtin "isinstance") [u, c]) Q E s := by
 obtain ⟨hz, e⟩ := e
 cases r with
 | exc _ _ => exact absurd rfl hz
 | ptr _ => exact absurd rfl hz
 | obj _ _ _ _ _ => exact absurd rfl hz
 | non => exact isinst_ok I rx .non e h
 | bl y => exact isinst_ok I rx (.bl y) e h
 | int i => exact isinst_ok I rx (.int i) e h
 | str y => exact isinst_ok I rx (.str y) e h
 | lst sq rs =>
  cases rx
  obtain ⟨its, vr, ⟨o, m, ho, hc, _, hd⟩, _⟩ := I.list sq
  exact W.kia_one W.kitx_list I.kIn ⟨_, ho, hc⟩ e (fun z => nomatch z) h
 | tup sq rs =>
  cases rx
  obtain ⟨its, vr, ⟨o, ho, hc, m, hd⟩, _⟩ := I.tuple sq
  exact W.kia_one W.kitx_tuple I.kIn ⟨_, ho, hc⟩ e (fun z => nomatch z) h
def rIsi (K : W.Frag) (c : String) : List V -> Hp -> VK -> Prop := fun vs H Q => ∃ x d k, vs = [x, .ty c] /\ Rep K H x d /\ kitB (tyD d) c = some k /\ Q (.bl k) H
theorem call_isi {c : String} : CallR X (.builtin "isinstance") (rIsi X.K c) := by
 intro pins s σ H xs us Q I r h
 obtain ⟨x, d, k, rfl, rd, e, q⟩ := h
 obtain ⟨u, w, rfl, rx, ry⟩ := vals2 r
 cases ry
 exact isi_rep I rx rd (kit_ty e) fun tk => ⟨.bl k, H, I.tok _, rfl, q⟩
@[irreducible] def misi (c : String) (m : ME) : ME := fun ρ => (m ρ).bind fun d => (kitB (tyD d) c).map .bl
theorem pd_isi {c : Str} {C : String} {p p2 : Pos} (hg : Gl X "isinstance") (hm : X.mg "isinstance" = none) (hgc : Gl X c) (hmc : X.mg c = none) (hv : bootBuiltins c = some (.type C)) (ha : PD X a ma)
  (hn : c ≠ "__name__" := by decide) (hd : (c == ("__debug__" : Str)) = false := by decide)
  (hs : starEach (a :: [.Name c p2]) X.env = (false, eval a X.env) :: starEach [.Name c p2] X.env := by rfl) (hs2 : starEach [.Name c p2] X.env = (false, eval (.Name c p2) X.env) :: starEach [] X.env := by rfl)
  (hpl : (backTo pos (starEach [.Name c p2] X.env)).any (·.1) = false := by rfl) : PD X (.Call (.Name "isinstance" p) [a, .Name c p2] [] pos) (misi C ma) :=
 (pe_callB (call_isi (c := C)) hg hm PyProof.Rows.boot_isinstance (pa_cons ha (pa_cons (pe_bltn (v := .ty C) hgc hmc hv rfl hn hd) pa_nil hs2) hs) (by decide) (by decide) hs hpl).imp fun σ H Q hpat => by
  obtain ⟨F0, H0, F, ρ, g, rl, e, q⟩ := hpat
  unfold misi at e
  cases h1 : ma ρ with
  | none => rw [h1] at e; cases e
  | some d =>
   rw [h1] at e
   have e : (kitB (tyD d) C).map D.bl = some g := e
   cases h2 : kitB (tyD d) C with
   | none => rw [h2] at e; cases e
   | some k =>
    rw [h2] at e; cases e
    exact ⟨F0, H0, F, ρ, d, rl, h1, fun v F1 H1 x1 r1 => ⟨v, d, k, rfl, r1.mono x1.fh, h2, q _ F1 H1 x1 (.bl _)⟩⟩
end
end
section
section
variable {X : Cx} {a b c e k : Expr} {te : TE} {ma mb : ME} {la lb : ML} {pos p2 : Pos} {st : Stmt}
end
end
section
section
variable {X : Cx} {a b c e : Expr} {ma mb : ME} {la lb : ML} {pos : Pos} {st : Stmt}
def kitB2 (t c1 c2 : String) : Option Bool := match kitB t c1 with | some true => some true | some false => (match kitB t c2 with | some true => some true | some false => some false | none => none) | none => none
theorem kit_ty2 {K : W.Frag} {t c1 c2 : String} {k : Bool} (h : kitB2 t c1 c2 = some k) : t ≠ "?" /\ W.kitAny K (.type t) [.type c1, .type c2] = some k := by
 unfold kitB2 at h
 split at h
 ·rename_i q1
  obtain ⟨z, e⟩ := kit_ty (K := K) q1
  refine ⟨z, ?_⟩
  unfold W.kitAny; rw [e]; exact h
 ·rename_i q1
  obtain ⟨z, e⟩ := kit_ty (K := K) q1
  refine ⟨z, ?_⟩
  unfold W.kitAny; rw [e]
  split at h
  ·rename_i q2
   unfold W.kitAny; rw [(kit_ty (K := K) q2).2]; exact h
  ·rename_i q2
   unfold W.kitAny; rw [(kit_ty (K := K) q2).2]; exact h
  ·cases h
 ·cases h
theorem isi_rep2 {pins : List (Addr × Obj)} {σ : St} {H : Hp} {s : Shared} {A : Around} {E : Value -> Shared -> Prop} {Q : Value -> Shared -> Prop} {k : Bool} {x : V} {d : D} {u : Value} {tp : Addr} {dd : Option Addr} {its : List Value} {n : Nat} {sl : Array (Option Value)} (I : Inv X pins σ H s) (rx : RelV x u) (r : Rep X.K H x d)
  (htp : s.heap.get? tp = some ⟨.type "tuple", dd, .seq its.toArray n, sl⟩)
  (e : tyD d ≠ "?" /\ W.kitAny X.K (.type (tyD d)) its = some k) (h : ∀ tk, Q (.bool k) { s with toks := tk }) : wpAny (model X.prog X.w) A (call (.builtin "isinstance") [u, .ref tp]) Q E s := by
 obtain ⟨hz, e⟩ := e
 cases r with
 | exc _ _ => exact absurd rfl hz
 | ptr _ => exact absurd rfl hz
 | obj _ _ _ _ _ => exact absurd rfl hz
 | non => cases rx; exact W.kia_tup W.kitx_none I.kIn True.intro htp e (fun z => nomatch z) h
 | bl y => cases rx; exact W.kia_tup W.kitx_bool I.kIn True.intro htp e (fun z => nomatch z) h
 | int i => obtain ⟨t, rfl⟩ := rx; exact W.kia_tup W.kitx_int I.kIn True.intro htp e (fun z => nomatch z) h
 | str y => obtain ⟨t, rfl⟩ := rx; exact W.kia_tup W.kitx_str I.kIn True.intro htp e (fun z => nomatch z) h
 | lst sq rs =>
  cases rx
  obtain ⟨its, vr, ⟨o, m, ho, hc, _, hd⟩, _⟩ := I.list sq
  exact W.kia_tup W.kitx_list I.kIn ⟨_, ho, hc⟩ htp e (fun z => nomatch z) h
 | tup sq rs =>
  cases rx
  obtain ⟨its, vr, ⟨o, ho, hc, m, hd⟩, _⟩ := I.tuple sq
  exact W.kia_tup W.kitx_tuple I.kIn ⟨_, ho, hc⟩ htp e (fun z => nomatch z) h
def rIsi2 (K : W.Frag) (c1 c2 : String) : List V -> Hp -> VK -> Prop := fun vs H Q => ∃ x p d k, vs = [x, .ref p] /\ H p = some (.tup [.ty c1, .ty c2]) /\ Rep K H x d /\ kitB2 (tyD d) c1 c2 = some k /\ Q (.bl k) H
theorem call_isi2 {c1 c2 : String} : CallR X (.builtin "isinstance") (rIsi2 X.K c1 c2) := by
 intro pins s σ H xs us Q I r h
 obtain ⟨x, p, d, k, rfl, hp, rd, e, q⟩ := h
 obtain ⟨u, w, rfl, rx, ry⟩ := vals2 r
 cases ry
 obtain ⟨z, its, vr, ⟨⟨cls, dd, data, sl⟩, ho, hc, n, hd⟩⟩ := (show ObjOk X.prog X.w H s.heap p (.tup [.ty c1, .ty c2]) from I.hok p _ hp)
 obtain ⟨u1, u2, rfl, r1, r2⟩ := vals2 vr
 cases r1; cases r2
 simp only at hc hd
 subst hc hd
 exact isi_rep2 I rx rd ho (kit_ty2 e) fun tk => ⟨.bl k, H, I.tok _, rfl, q⟩
@[irreducible] def misi2 (c1 c2 : String) (m : ME) : ME := fun ρ => (m ρ).bind fun d => (kitB2 (tyD d) c1 c2).map .bl
theorem pd_isi2 {c1 c2 : Str} {C1 C2 : String} {p p1 p2 p3 : Pos} {x1} (hg : Gl X "isinstance") (hm : X.mg "isinstance" = none) (hg1 : Gl X c1) (hm1 : X.mg c1 = none) (hv1 : bootBuiltins c1 = some (.type C1)) (hg2 : Gl X c2) (hm2 : X.mg c2 = none) (hv2 : bootBuiltins c2 = some (.type C2)) (ha : PD X a ma)
  (hn1 : c1 ≠ "__name__" := by decide) (hd1 : (c1 == ("__debug__" : Str)) = false := by decide) (hn2 : c2 ≠ "__name__" := by decide) (hd2 : (c2 == ("__debug__" : Str)) = false := by decide)
  (hs : starEach (a :: [.Tuple [.Name c1 p1, .Name c2 p2] x1 p3]) X.env = (false, eval a X.env) :: starEach [.Tuple [.Name c1 p1, .Name c2 p2] x1 p3] X.env := by rfl) (hs2 : starEach [.Tuple [.Name c1 p1, .Name c2 p2] x1 p3] X.env = (false, eval (.Tuple [.Name c1 p1, .Name c2 p2] x1 p3) X.env) :: starEach [] X.env := by rfl)
  (hs3 : starEach [.Name c1 p1, .Name c2 p2] X.env = (false, eval (.Name c1 p1) X.env) :: starEach [.Name c2 p2] X.env := by rfl) (hs4 : starEach [.Name c2 p2] X.env = (false, eval (.Name c2 p2) X.env) :: starEach [] X.env := by rfl)
  (hpl : (backTo pos (starEach [.Tuple [.Name c1 p1, .Name c2 p2] x1 p3] X.env)).any (·.1) = false := by rfl) : PD X (.Call (.Name "isinstance" p) [a, .Tuple [.Name c1 p1, .Name c2 p2] x1 p3] [] pos) (misi2 C1 C2 ma) :=
 (pe_callB (call_isi2 (c1 := C1) (c2 := C2)) hg hm PyProof.Rows.boot_isinstance (pa_cons ha (pa_cons (pe_tup (pa_cons (pe_bltn (v := .ty C1) hg1 hm1 hv1 rfl hn1 hd1) (pa_cons (pe_bltn (v := .ty C2) hg2 hm2 hv2 rfl hn2 hd2) pa_nil hs4) hs3)) pa_nil hs2) hs) (by decide) (by decide) hs hpl).imp fun σ H Q hpat => by
  obtain ⟨F0, H0, F, ρ, g, rl, e, q⟩ := hpat
  unfold misi2 at e
  cases h1 : ma ρ with
  | none => rw [h1] at e; cases e
  | some d =>
   rw [h1] at e
   have e : (kitB2 (tyD d) C1 C2).map D.bl = some g := e
   cases h2 : kitB2 (tyD d) C1 C2 with
   | none => rw [h2] at e; cases e
   | some k =>
    rw [h2] at e; cases e
    refine ⟨F0, H0, F, ρ, d, rl, h1, fun v F1 H1 x1 r1 => ⟨by show 2 <= sizeLine; rw [sizeLine_eq]; decide, fun w hw => ?_⟩⟩
    exact ⟨v, w, d, k, rfl, upd_same, r1.mono (x1.fh.put (x1.fh.free hw)), h2, q _ F1 _ (x1.trans (Ext.own x1.fh hw)) (.bl _)⟩
end
end
section
section
variable {K : W.Frag} {F0 H0 F H : Hp} {σ : St} {ρ : Ro}
end
end
section
section
variable {X : Cx} {a b c e : Expr} {ma mb mz : ME} {la lb : ML} {pos : Pos}
def maxI : List Int -> Int
 | [] => 0
 | a :: r => r.foldl (fun x y => if y > x then y else x) a
theorem foldMax : ∀ (r : List Int) (a : Int), (r.foldl (fun x y => if y > x then y else x) a ∈ a :: r) /\ ∀ y ∈ a :: r, y <= r.foldl (fun x y => if y > x then y else x) a
 | [], a => ⟨by simp, fun y hy => by simp at hy; subst hy; exact Int.le_refl _⟩
 | b :: r, a => by
  obtain ⟨h1, h2⟩ := foldMax r (if b > a then b else a)
  rw [foldl_cons]
  refine ⟨?_, fun y hy => ?_⟩
  ·rcases List.mem_cons.mp h1 with h | h
   ·rw [h]; split <;> simp
   ·exact mem_cons_of_mem _ (mem_cons_of_mem _ h)
  ·have h0 := h2 _ mem_cons_self
   rcases List.mem_cons.mp hy with h | h
   ·subst h; refine Int.le_trans ?_ h0; split <;> omega
   ·rcases List.mem_cons.mp h with h | h
    ·subst h; refine Int.le_trans ?_ h0; split <;> omega
    ·exact h2 y (mem_cons_of_mem _ h)
theorem maxI_mem {ns : List Int} (h : ns ≠ []) : maxI ns ∈ ns := by
 cases ns with
 | nil => exact absurd rfl h
 | cons a r => exact (foldMax r a).1
theorem maxI_ge {ns : List Int} {y : Int} (h : y ∈ ns) : y <= maxI ns := by
 cases ns with
 | nil => cases h
 | cons a r => exact (foldMax r a).2 y h
theorem vals_intItems : ∀ {ns : List Int} {its : List Value}, Vals (ns.map V.int) its -> ∃ xs : List (Int × Tok), its.toArray = intItems xs.toArray /\ xs.map (·.1) = ns
 | [], _, .nil => ⟨[], by unfold intItems; simp, rfl⟩
 | n :: ns, _, .cons r t => by
  obtain ⟨k, rfl⟩ := r
  obtain ⟨xs, h1, h2⟩ := vals_intItems t
  refine ⟨(n, k) :: xs, ?_, by rw [map_cons, h2]⟩
  have := congrArg Array.toList h1
  unfold intItems at this ⊢
  simp at this ⊢
  exact this
theorem numAt_get (xs : List (Int × Tok)) {i : Nat} (h : i < xs.length) : numAt xs.toArray i = (xs[i]).1 := by
 unfold numAt
 simp [h]
def rMaxL (K : W.Frag) : List V -> Hp -> VK -> Prop := fun vs H Q => ∃ p ns, vs = [.ref p] /\ SqL K H p (ns.map V.int) /\ ns ≠ [] /\ Q (.int (maxI ns)) H
theorem call_maxL (hc : X.calm = true) : CallR X (.builtin "max") (rMaxL X.K) := by
 intro pins s σ H xs us Q I r h
 obtain ⟨p, ns, rfl, sq, hne, q⟩ := h
 obtain ⟨u, rfl, rx⟩ := vals1 r
 cases rx
 obtain ⟨its, vr, pl, hz⟩ := I.list sq
 obtain ⟨ts, h1, h2⟩ := vals_intItems vr
 have hp := pl.isList
 rw [h1] at hp
 have hlen : 0 < ts.length := by
  cases ts with
  | nil => simp at h2; exact absurd h2.symm (by simpa using hne)
  | cons _ _ => simp
 refine max_intList (I.ok.hd hc) hp (by simpa using hlen) fun v h' tk e k => ?_
 obtain ⟨b1, b2⟩ := argBest_gt (numAt ts.toArray) (ts.toArray.size - 1)
 rw [size_toArray] at b1 b2 e
 generalize hi : argBest (fun i j => decide (numAt ts.toArray i > numAt ts.toArray j)) (ts.length - 1) = i at b1 b2 e
 have hil : i < ts.length := by omega
 have hv : v = Value.int (ts[i]).1 (ts[i]).2 := by
  unfold intItems at e
  simp [hil] at e
  exact e.symm
 have hm : (ts[i]).1 = maxI ns := by
  have m1 : (ts[i]).1 ∈ ns := by rw [<- h2]; exact mem_map_of_mem (getElem_mem hil)
  refine Int.le_antisymm (maxI_ge m1) ?_
  have m2 := maxI_mem hne
  rw [<- h2] at m2
  obtain ⟨t, ht, e2⟩ := List.mem_map.mp m2
  obtain ⟨j, hj, e3⟩ := getElem_of_mem ht
  have := b2 j (by omega)
  rw [numAt_get ts hj, numAt_get ts hil, e3, e2, h2] at this
  exact this
 subst hv
 exact ⟨.int (maxI ns), H, I.kept k, ⟨_, by rw [hm]⟩, q⟩
def intsD : List D -> Option (List Int)
 | [] => some []
 | .int i :: r => match intsD r with | some ns => some (i :: ns) | none => none
 | _ => none
theorem intsD_reps {K : W.Frag} {F : Hp} : ∀ {vs : List V} {ds : List D} {ns : List Int}, Reps K F vs ds -> intsD ds = some ns -> vs = ns.map V.int
 | _, _, _, .nil, h => by cases h; rfl
 | _, _, _, .cons (d := d) (ds := ds) r t, h => by
  cases r with
  | int i =>
   unfold intsD at h
   cases h1 : intsD ds with
   | none => simp only [h1] at h; cases h
   | some ns => simp only [h1] at h; cases h; rw [intsD_reps t h1]; rfl
  | _ => cases h
theorem intsD_map : ∀ ns : List Int, intsD (ns.map D.int) = some ns
 | [] => rfl
 | n :: ns => by show (match intsD (ns.map D.int) with | some ns => some (n :: ns) | none => none) = _; rw [intsD_map ns]
@[irreducible] def mmaxL (m : ML) : ME := fun ρ => match m ρ with | some ds => (match intsD ds with | some (n :: ns) => some (.int (maxI (n :: ns))) | _ => none) | none => none
theorem pd_maxL {p : Pos} {m : ML} (hc : X.calm = true) (hg : Gl X "max") (hm : X.mg "max" = none) (ha : PB X e m) (hs : starEach (e :: []) X.env = (false, eval e X.env) :: starEach [] X.env := by rfl) (he : starEach [e] X.env = (false, eval e X.env) :: starEach [] X.env := by rfl) (hpl : (backTo pos (starEach [] X.env)).any (·.1) = false := by rfl) : PD X (.Call (.Name "max" p) [e] [] pos) (mmaxL m) :=
 (pe_callB (call_maxL hc) hg hm PyProof.Rows.boot_max (pa_cons ha pa_nil hs) (by decide) (by decide) he hpl).imp fun σ H Q hpat => by
  obtain ⟨F0, H0, F, ρ, g, rl, e, q⟩ := hpat
  unfold mmaxL at e
  cases h1 : m ρ with
  | none => rw [h1] at e; cases e
  | some ds =>
   rw [h1] at e
   cases h2 : intsD ds with
   | none => simp only [h2] at e; cases e
   | some ns =>
    cases ns with
    | nil => simp only [h2] at e; cases e
    | cons n ns =>
     simp only [h2] at e; cases e
     refine ⟨F0, H0, F, ρ, ds, rl, h1, fun p xs F1 H1 x1 s1 r1 => ⟨p, n :: ns, rfl, ?_, by simp, q _ F1 H1 x1 (.int _)⟩⟩
     rw [<- intsD_reps r1 h2]; exact s1
def tabVs : List (Str × Str) -> List DictEntry -> Prop
 | [], [] => True
 | (k, v) :: r, e :: es => (∃ t, e.key = .str k t) /\ (∃ t, e.val = .str v t) /\ tabVs r es
 | _, _ => False
structure KTab (w : World) (K : W.Frag) (a : Addr) (tab : List (Str × Str)) : Prop where
 ns : (a == sysModules) = false
 nd : (tab.map (·.1)).Nodup
 obj : ∃ es ep, K.lookup a = some ⟨.type "dict", none, .dict es ep, #[]⟩ /\ tabVs tab es.toList /\ ∀ e ∈ es.toList, ∀ k t, e.key = .str k t -> e.hash = hashStr w k
theorem tab_pairs {P : Program} {w : World} : ∀ {tab : List (Str × Str)} {es : List DictEntry}, tabVs tab es -> ∃ kvs : List (Key × Value), Pairs (mixKind P w) es kvs /\ kvs.map (·.1) = tab.map (fun p => Sum.inr p.1) /\ ∀ k, (∀ v, tab.lookup k = some v -> ∃ t, valueAt kvs (Sum.inr k) = some (.str v t)) /\ (tab.lookup k = none -> valueAt kvs (Sum.inr k) = none)
 | [], [], _ => ⟨[], .nil, rfl, fun k => ⟨fun v h => by simp at h, fun _ => rfl⟩⟩
 | [], _ :: _, h => h.elim
 | _ :: _, [], h => h.elim
 | (k, v) :: r, e :: es, ⟨⟨t1, h1⟩, ⟨t2, h2⟩, h3⟩ => by
  obtain ⟨kvs, a1, a2, a3⟩ := tab_pairs (P := P) (w := w) h3
  refine ⟨(Sum.inr k, .str v t2) :: kvs, .cons (by rw [h1]; exact keyIs_str k t1) h2 a1, by rw [map_cons, map_cons, a2], fun k' => ?_⟩
  unfold valueAt
  by_cases hk : k' = k
  ·subst hk
   refine ⟨fun v' h => ?_, fun h => ?_⟩
   ·rw [lookup_cons_self] at h; cases h
    exact ⟨t2, by simp⟩
   ·rw [lookup_cons_self] at h; cases h
  ·have hb : (k' == k) = false := by simpa using hk
   have hb2 : ¬ ((Sum.inr k : Key) = Sum.inr k') := fun z => hk (Sum.inr.inj z).symm
   obtain ⟨c1, c2⟩ := a3 k'
   refine ⟨fun v' h => ?_, fun h => ?_⟩
   ·rw [lookup_cons, hb] at h
    obtain ⟨t, ht⟩ := c1 v' h
    unfold valueAt at ht
    exact ⟨t, by simpa [hb2] using ht⟩
   ·rw [lookup_cons, hb] at h
    have := c2 h
    unfold valueAt at this
    simpa [hb2] using this
theorem KTab.dict {t : Addr} {tab : List (Str × Str)} {pins : List (Addr × Obj)} {σ : St} {H : Hp} {s : Shared} (T : KTab X.w X.K t tab) (I : Inv X pins σ H s) : ∃ kvs : List (Key × Value), s.heap.DictOf (mixKind X.prog X.w) t kvs /\ ∀ k, (∀ v, tab.lookup k = some v -> ∃ t, valueAt kvs (Sum.inr k) = some (.str v t)) /\ (tab.lookup k = none -> valueAt kvs (Sum.inr k) = none) := by
 obtain ⟨es, ep, h1, h2, h3⟩ := T.obj
 obtain ⟨kvs, a1, a2, a3⟩ := tab_pairs (P := X.prog) (w := X.w) h2
 refine ⟨kvs, ⟨_, es, ep, I.kIn t _ h1, ⟨rfl, rfl, rfl⟩, rfl, fun e he => ?_, a1, ?_⟩, a3⟩
 ·have key : ∀ {tab : List (Str × Str)} {es : List DictEntry}, tabVs tab es -> ∀ e ∈ es, ∃ k t, e.key = .str k t := by
   intro tab
   induction tab with
   | nil => intro es h e he; cases es with
    | nil => cases he
    | cons _ _ => exact h.elim
   | cons p r ih =>
    intro es h e he
    cases es with
    | nil => cases he
    | cons e0 es =>
     obtain ⟨⟨t1, g1⟩, _, g3⟩ := h
     rcases List.mem_cons.mp he with z | z
     ·subst z; exact ⟨_, t1, g1⟩
     ·exact ih g3 e z
  obtain ⟨k, tk, hk⟩ := key h2 e (by simpa using he)
  exact ⟨Sum.inr k, by rw [hk]; exact keyIs_str k tk, h3 e (by simpa using he) k tk hk⟩
 ·rw [a2]
  have := T.nd
  rw [show tab.map (fun p => (Sum.inr p.1 : Key)) = (tab.map (·.1)).map Sum.inr by rw [map_map]; rfl]
  exact List.Pairwise.map _ (fun _ _ h z => h (Sum.inr.inj z)) this
end
end
section
section
variable {prog : Program} {w : World} {A : Around} {E : Value -> Shared -> Prop} {s : Shared}
structure ApT (z TO i1 i2 l : Addr) : Prop where
 lz : l ≠ z
 lTO : l ≠ TO
 l1 : l ≠ i1
 l2 : l ≠ i2
end
end
section
section
variable {prog : Program} {w : World} {A : Around} {E : Value -> Shared -> Prop} {s : Shared}
end
section
variable {X : Cx}
end
end
section
section
variable {X : Cx} {a b c e : Expr} {ma mb : ME} {la lb : ML} {pos : Pos}
end
section
variable {K : W.Frag} {F0 H0 F H H' : Hp} {σ : St} {ρ : Ro}
end
section
variable {X : Cx} {a b c e3 : Expr} {ma mb : ME} {la lb : ML} {pos : Pos} {E : XK} {es : List Expr} {mf : MF} {m : ML} {rb : List Stmt} {mx : MS} {cc : MB} {y : D}
end
end
section
abbrev MEm := Ro -> Option (D × Ro)
abbrev MLm := Ro -> Option (List D × Ro)
section
variable {X : Cx} {a b c e : Expr} {ma mb : ME} {na nb : MEm} {pos : Pos} {es : List Expr}
variable {st : Stmt}
end
abbrev MG := Addr -> List D -> List D -> Option (Rt × List D)
end
section
section
variable {K : W.Frag} {F0 H0 F H F' H' : Hp} {σ : St} {ρ : Ro}
end
open Classical in
section
variable {X : Cx} {e : Expr} {pos : Pos} {es : List Expr} {E : XK} {mf : MG} {m : MLm}
end
end
section
section
variable {X : Cx} {a b c e : Expr} {ma mb : ME} {pos : Pos}
end
end
section
def LtAt (A : Around) (s : Shared) (v u : Value) (k : Bool) : Prop := ∀ (prog : Program) (w : World) (E : Value -> Shared -> Prop) (Q : Value -> Shared -> Prop), Q (.bool k) s -> wpAny (model prog w) A (richCompare .Lt v u) Q E s
def LexAt (A : Around) (s : Shared) : List Value -> List Value -> Bool -> Prop
 | [], [], k => k = false
 | [], _ :: _, k => k = true
 | _ :: _, [], k => k = false
 | y :: ys, x :: xs, k => ∃ e, SeqAt.EqAt A s y x e /\ ((e = true /\ LexAt A s ys xs k) \/ (e = false /\ LtAt A s y x k))
section
open PySem.SeqAt
open PySem.AutoSeq1 (wpAny_loadPart')
open PySem.MeetsSeq PySem.MeetsSeq2 PySem.MeetsSeq3
set_option maxHeartbeats 4000000 in
theorem tup_lt (l b : Addr) (items items2 : Array Value) (n n2 : Nat) (dd dd2 : Option Addr) (sl sl2 : Array (Option Value)) (k : Bool) :
  Meets (Builtin.«tuple.__lt__» ⟨[.ref l, .ref b], []⟩)
   (fun A R s => s.heap.get? l = some { cls := .type "tuple", dict := dd, data := .seq items n, slots := sl } /\ s.heap.get? b = some { cls := .type "tuple", dict := dd2, data := .seq items2 n2, slots := sl2 } /\
    LexAt A.in1 s items.toList items2.toList k /\ R (.ok (.ret (.bool k))) s) :=
 .of_wp fun prog w A R s h => by
  obtain ⟨hp, g, d, tk, os⟩ := s; obtain ⟨hl, hb, hx, h⟩ := h
  have f2 := AutoSeq1.sub_tuple_tuple
  wp_walk using wpAny_loadPart' hl, wpAny_loadPart' hb, wpAny_forIn_list _ (fun rest b s' => b.1 = none /\ s' = ⟨hp, g, d, tk, os⟩ /\ ∃ (vs ws : List Value), rest = vs.zip ws /\
   vs.length + items2.size = ws.length + items.size /\ LexAt A.in1 ⟨hp, g, d, tk, os⟩ vs ws k) _
  case turn =>
   rintro ⟨y, x⟩ rest b s' ⟨hb', rfl, vs, ws, hz, hlen, hL⟩
   cases vs with
   | nil => rw [zip_nil_left] at hz; cases hz
   | cons a vs =>
    cases ws with
    | nil => rw [zip_nil_right] at hz; cases hz
    | cons c ws =>
     rw [zip_cons_cons] at hz
     injection hz with hyx hrest
     injection hyx with hy hx'
     subst hy hx'
     simp only [length_cons] at hlen
     obtain ⟨e, he, hL⟩ := hL
     refine wpAny_bind (he prog w _ _ ?_)
     rcases hL with ⟨rfl, hL⟩ | ⟨rfl, hL⟩
     ·wp_walk
      exact ⟨rfl, rfl, vs, ws, hrest, by omega, hL⟩
     ·have hri := hL prog w
      wp_walk using hri
      exact ⟨_, rfl, by simpa using h⟩
  case fin =>
   rintro ⟨b1, b2⟩ s' ⟨hb', rfl, vs, ws, hz, hlen, hL⟩
   simp only at hb'
   subst hb'
   have hv : k = decide (items.size < items2.size) := by
    cases vs with
    | nil =>
     cases ws with
     | nil =>
      simp only [length_nil] at hlen
      rw [show k = false from hL]
      exact (decide_eq_false (by omega)).symm
     | cons c ws =>
      simp only [length_nil, length_cons] at hlen
      rw [show k = true from hL]
      exact (decide_eq_true (by omega)).symm
    | cons a vs =>
     cases ws with
     | nil =>
      simp only [length_nil, length_cons] at hlen
      rw [show k = false from hL]
      exact (decide_eq_false (by omega)).symm
     | cons c ws =>
      rw [zip_cons_cons] at hz
      cases hz
   rw [hv] at h
   wp_walk
   exact ⟨_, rfl, by simpa [Builtin.Tuple.tupleCompareSizes] using h⟩
  case h =>
   exact ⟨rfl, rfl, items.toList, items2.toList, rfl, by simp; omega, hx⟩
set_option maxHeartbeats 4000000 in
theorem lst_lt_loop (l b : Addr) (items items2 : Array Value) (n n2 : Nat) (dd dd2 : Option Addr) (sl sl2 : Array (Option Value)) (r : Bool) (k : Nat) :
  ∀ i : Nat, items.size - i = k -> i <= items.size -> i <= items2.size -> Meets (Builtin.«list.__eq__.loop» ⟨[.ref l, .ref b, rawInt i, rawInt 0], []⟩)
   (fun A R s => s.heap.get? l = some { cls := .type "list", dict := dd, data := .seq items n, slots := sl } /\ s.heap.get? b = some { cls := .type "list", dict := dd2, data := .seq items2 n2, slots := sl2 } /\
    LexAt A.in1 s (items.toList.drop i) (items2.toList.drop i) r /\ R (.ok (.ret (.bool r))) s) := by
 induction k with
 | zero =>
  intro i hk h1 h2 prog w A R s h
  obtain ⟨hp, g, d, tk, os⟩ := s; obtain ⟨hl, hb, hx, h⟩ := h
  wp_walk using wpAny_loadPart' hl, wpAny_loadPart' hb
  have hi1 : items[((i : Nat) : Int).toNat]? = none := by simp; omega
  have e1 : items.toList.drop i = [] := drop_eq_nil_of_le (by simp; omega)
  rw [e1] at hx
  have hr : r = decide (items.size < items2.size) := by
   cases e2 : items2.toList.drop i with
   | nil =>
    rw [e2] at hx
    have : items2.size <= i := by simpa using e2
    rw [show r = false from hx]
    exact (decide_eq_false (by omega)).symm
   | cons c ws =>
    rw [e2] at hx
    have : i < items2.size := by
     rcases Nat.lt_or_ge i items2.size with z | z
     ·exact z
     ·rw [drop_eq_nil_of_le (by simpa using z)] at e2; cases e2
    rw [show r = true from hx]
    exact (decide_eq_true (by omega)).symm
  rw [hi1]
  wp_walk using wpAny_loadPart' hl, wpAny_loadPart' hb
  rw [hr] at h
  exact h
 | succ k ih =>
  intro i hk h1 h2 prog w A R s h
  obtain ⟨hp, g, d, tk, os⟩ := s; obtain ⟨hl, hb, hx, h⟩ := h
  have hlt : i < items.size := by omega
  have hi1 : items[((i : Nat) : Int).toNat]? = some items[i] := by simp [hlt]
  have e1 : items.toList.drop i = items[i] :: items.toList.drop (i + 1) := by rw [drop_eq_getElem_cons (by simpa using hlt)]; simp
  have hc : ((i : Int) + 1) = ((i + 1 : Nat) : Int) := by push_cast; rfl
  rw [e1] at hx
  by_cases hlt2 : i < items2.size
  ·have hi2 : items2[((i : Nat) : Int).toNat]? = some items2[i] := by simp [hlt2]
   have e2 : items2.toList.drop i = items2[i] :: items2.toList.drop (i + 1) := by rw [drop_eq_getElem_cons (by simpa using hlt2)]; simp
   rw [e2] at hx
   obtain ⟨e, he, hx⟩ := hx
   wp_walk using wpAny_loadPart' hl, wpAny_loadPart' hb
   rw [hi1, hi2]
   refine wpAny_bind (he prog w _ _ ?_)
   rcases hx with ⟨rfl, hx⟩ | ⟨rfl, hx⟩
   ·wp_walk
    rw [hc]
    exact ⟨plainId_quiet plain_eq_loop _, codeAny_builtin entry_eq_loop (by
     rw [Around.under_plainId plain_eq_loop _]
     exact ih (i + 1) (by omega) (by omega) (by omega) prog w A R _ ⟨hl, hb, hx, h⟩)⟩
   ·have hri := hx prog w
    wp_walk using wpAny_loadPart' hl, wpAny_loadPart' hb
    rw [hi1, hi2]
    wp_walk using hri
    exact h
  ·have hi2 : items2[((i : Nat) : Int).toNat]? = none := by simp; omega
   have e2 : items2.toList.drop i = [] := drop_eq_nil_of_le (by simp; omega)
   rw [e2] at hx
   have hr : r = decide (items.size < items2.size) := by
    rw [show r = false from hx]
    exact (decide_eq_false (by omega)).symm
   wp_walk using wpAny_loadPart' hl, wpAny_loadPart' hb
   rw [hi1, hi2]
   wp_walk using wpAny_loadPart' hl, wpAny_loadPart' hb
   rw [hr] at h
   exact h
set_option maxHeartbeats 4000000 in
theorem lst_lt (l b : Addr) (items items2 : Array Value) (n n2 : Nat) (dd dd2 : Option Addr) (sl sl2 : Array (Option Value)) (r : Bool) :
  Meets (Builtin.«list.__lt__» ⟨[.ref l, .ref b], []⟩)
   (fun A R s => s.heap.get? l = some { cls := .type "list", dict := dd, data := .seq items n, slots := sl } /\ s.heap.get? b = some { cls := .type "list", dict := dd2, data := .seq items2 n2, slots := sl2 } /\
    LexAt A.in1 s items.toList items2.toList r /\ R (.ok (.ret (.bool r))) s) := by
 intro prog w A R s h
 obtain ⟨hp, g, d, tk, os⟩ := s; obtain ⟨hl, hb, hx, h⟩ := h
 have f3 := AutoSeq1.sub_list_list
 wp_walk using wpAny_loadPart' hl, wpAny_loadPart' hb
 exact ⟨plainId_quiet plain_eq_loop _, codeAny_builtin entry_eq_loop (by
  rw [Around.under_plainId plain_eq_loop _]
  exact lst_lt_loop l b items items2 n n2 dd dd2 sl sl2 r _ 0 rfl (Nat.zero_le _) (Nat.zero_le _) prog w A R _ ⟨hl, hb, by simpa using hx, h⟩)⟩
end
def lexF (eq lt : D -> D -> Option Bool) : List D -> List D -> Option Bool
 | [], [] => some false
 | [], _ :: _ => some true
 | _ :: _, [] => some false
 | d :: ds, e :: es => match eq d e with
  | some true => lexF eq lt ds es
  | some false => lt d e
  | none => none
def ltF : Nat -> D -> D -> Option Bool
 | 0, _, _ => none
 | n + 1, .lst ds, .lst es => lexF (eqF n) (ltF n) ds es
 | n + 1, .tup ds, .tup es => lexF (eqF n) (ltF n) ds es
 | _ + 1, .int i, .int j => some (decide (i < j))
 | _ + 1, _, _ => none
section
variable {X : Cx} {pins : List (Addr × Obj)} {σ : St} {H : Hp} {s : Shared}
theorem lex_at (I : Inv X pins σ H s) (n : Nat) {A : Around} (hu : A.units + n < cLine) (ih : ∀ {x y : V} {v u : Value} {d e : D} {k : Bool}, Rep X.K H x d -> Rep X.K H y e -> RelV x v -> RelV y u -> ltF n d e = some k -> LtAt A s v u k) :
  ∀ {xs ys : List V} {vs us : List Value} {ds es : List D} {k : Bool}, Reps X.K H xs ds -> Reps X.K H ys es -> Vals xs vs -> Vals ys us -> lexF (eqF n) (ltF n) ds es = some k -> LexAt A s vs us k
 | _, _, _, _, _, _, k, .nil, .nil, .nil, .nil, h => by cases h; exact rfl
 | _, _, _, _, _, _, k, .nil, .cons _ _, .nil, .cons _ _, h => by cases h; exact rfl
 | _, _, _, _, _, _, k, .cons _ _, .nil, .cons _ _, .nil, h => by cases h; exact rfl
 | _, _, _, _, _, _, k, .cons (d := d) r1 t1, .cons (d := e) r2 t2, .cons q1 p1, .cons q2 p2, h => by
  unfold lexF at h
  cases hq : eqF n d e with
  | none => rw [hq] at h; cases h
  | some b =>
   rw [hq] at h
   refine ⟨b, (eq_at I n hu r1 r2 q1 q2 hq).1, ?_⟩
   cases b with
   | true => exact .inl ⟨rfl, lex_at I n hu ih t1 t2 p1 p2 h⟩
   | false => exact .inr ⟨rfl, ih r1 r2 q1 q2 h⟩
theorem lt_at (I : Inv X pins σ H s) : ∀ (n : Nat) {A : Around} {x y : V} {v u : Value} {d e : D} {k : Bool}, A.units + n < cLine -> Rep X.K H x d -> Rep X.K H y e -> RelV x v -> RelV y u -> ltF n d e = some k -> LtAt A s v u k
 | 0, A, x, y, v, u, d, e, k, hu, r1, r2, q1, q2, h => by simp [ltF] at h
 | n + 1, A, x, y, v, u, d, e, k, hu, r1, r2, q1, q2, h => by
  have hu0 : A.units < cLine := by omega
  have hu1 : A.in1.units + n < cLine := by show A.units + 1 + n < cLine; omega
  cases d with
  | int i =>
   cases e with
   | int j =>
    obtain rfl := r1.i'
    obtain rfl := r2.i'
    obtain ⟨t, rfl⟩ := q1
    obtain ⟨t', rfl⟩ := q2
    cases h
    exact fun prog w E Q hQ => HT.rcLt_int A s i t j t' prog w E Q hQ
   | _ => cases h
  | lst ds1 =>
   cases e with
   | lst ds2 =>
    obtain ⟨a1, xs1, rfl, sq, rs⟩ := r1.l'
    obtain ⟨a2, xs2, rfl, sq2, rs2⟩ := r2.l'
    cases q1; cases q2
    obtain ⟨its, vr, ⟨⟨cls, dd, data, sl⟩, m, ho, hc, hdd, hd⟩, _⟩ := I.list sq
    obtain ⟨its2, vr2, ⟨⟨cls2, dd2, data2, sl2⟩, m2, ho2, hc2, hdd2, hd2⟩, _⟩ := I.list sq2
    simp only at hc hd hc2 hd2
    subst hc hd hc2 hd2
    have L := lex_at I n hu1 (fun a b c d e => lt_at I n hu1 a b c d e) rs rs2 vr vr2 (show lexF (eqF n) (ltF n) _ _ = some k from h)
    intro prog w E Q hQ
    exact richCompare_meets_room (op := .Lt) ⟨_, ho, rfl⟩ ⟨_, ho2, rfl⟩ PySem.F.slot_list_lt PySem.F.entry_list_lt (PySem.F.args_list_lt_2 _ _) (lst_lt _ _ its.toArray its2.toArray m m2 dd dd2 sl sl2 k)
     ⟨ho, ho2, by simpa using L, show Value.bool k ≠ Value.notImplemented /\ Q (.bool k) s from ⟨(fun x => nomatch x), hQ⟩⟩ hu0
   | _ => cases h
  | tup ds1 =>
   cases e with
   | tup ds2 =>
    obtain ⟨a1, xs1, rfl, sq, rs⟩ := r1.t'
    obtain ⟨a2, xs2, rfl, sq2, rs2⟩ := r2.t'
    cases q1; cases q2
    obtain ⟨its, vr, ⟨⟨cls, dd, data, sl⟩, ho, hc, m, hd⟩, _⟩ := I.tuple sq
    obtain ⟨its2, vr2, ⟨⟨cls2, dd2, data2, sl2⟩, ho2, hc2, m2, hd2⟩, _⟩ := I.tuple sq2
    simp only at hc hd hc2 hd2
    subst hc hd hc2 hd2
    have L := lex_at I n hu1 (fun a b c d e => lt_at I n hu1 a b c d e) rs rs2 vr vr2 (show lexF (eqF n) (ltF n) _ _ = some k from h)
    intro prog w E Q hQ
    exact richCompare_meets_room (op := .Lt) ⟨_, ho, rfl⟩ ⟨_, ho2, rfl⟩ PySem.F.slot_tuple_lt PySem.F.entry_tuple_lt (PySem.F.args_tuple_lt_2 _ _) (tup_lt _ _ its.toArray its2.toArray m m2 dd dd2 sl sl2 k)
     ⟨ho, ho2, by simpa using L, show Value.bool k ≠ Value.notImplemented /\ Q (.bool k) s from ⟨(fun x => nomatch x), hQ⟩⟩ hu0
   | _ => cases h
  | _ => cases h
end
end
section
def KeyAt (X : Cx) (kv : Value) (mk : D -> Option D) : Prop := ∀ (pins : List (Addr × Obj)) (σ : St) (H F : Hp) (s : Shared) (x : V) (u : Value) (d kd : D), Inv X pins σ H s -> Same F H -> Rep X.K F x d -> RelV x u -> mk d = some kd ->
 wpAny (model X.prog X.w) X.A.in1 (call kv [u]) (fun w s' => ∃ y F' H', Inv X pins σ H' s' /\ RelV y w /\ Ext F H F' H' /\ Rep X.K F' y kd) (fun _ _ => False) s
def shOf : Option Rt -> Option D
 | some (.sh d) => some d
 | some (.fr es) => some (.lst es)
 | _ => none
theorem keyAt_fn {X : Cx} {k : Nat} {f : Addr} {fd : FuncData} {p : Str} {m : MF} (F : FnOk X.prog X.w X.K X.mg X.base CX0 k f fd [p] (spR X.K 1 m)) (hr : Room k X.A.in1) (hb : Binds X.K fd [p] []) : KeyAt X (.ref f) (fun d => shOf (m [d])) := by
 intro pins σ H Fh s x u d kd I sf r rx hm
 have hm : shOf (m [d]) = some kd := hm
 have sp : spR X.K 1 m [x] H (fun v H' => ∃ F', Ext Fh H F' H' /\ Rep X.K F' v kd) E0 := by
  cases h : m [d] with
  | none => rw [h] at hm; cases hm
  | some t =>
   rw [h] at hm
   cases t with
   | sh g => cases hm; exact ⟨rfl, Fh, [d], _, sf, .cons r .nil, h, fun v F' H' x' r' => ⟨F', x', r'⟩⟩
   | fr gs => cases hm; exact ⟨rfl, Fh, [d], _, sf, .cons r .nil, h, fun q xs F' H' x' hp hF hH rs => ⟨upd F' q (.lst xs), x'.freeze hF hp hH, .lst (SqL.of upd_same) (rs.mono ((Same.refl F').put hF))⟩⟩
   | pr _ _ => cases hm
 have e0 := I.env0
 have env : Env0 X.prog X.w X.K X.mg X.base X.A.in1 X.stack s H := ⟨e0.frames, e0.mod, e0.bs, e0.bsz, e0.funs, e0.frf, e0.hok, e0.bare⟩
 refine wpAny_call (codeAny_mono (F.run X.A.in1 X.stack s H ⟨[u], []⟩ [u] [x] _ E0 hr env (hb s [u] I.kIn rfl) (.cons rx .nil) sp) fun r s' hq => ?_)
 cases r with
 | error e => exact hq.elim
 | ok fl =>
  cases fl with
  | ret v =>
   obtain ⟨y, H', I', ry, F', x', r'⟩ := I.after hq
   exact ⟨y, F', H', I', ry, x', r'⟩
  | next => exact hq.elim
  | brk => exact hq.elim
  | cont => exact hq.elim
def minF (mk : D -> Option D) : List D -> D -> D -> Option D
 | [], b, _ => some b
 | d :: ds, b, kb => match mk d with
  | some kd => (match ltF 8 kd kb with | some true => minF mk ds d kd | some false => minF mk ds b kb | none => none)
  | none => none
section
variable {X : Cx} {pins : List (Addr × Obj)} {σ : St}
theorem FpOk.now {H H' : Hp} {b : Addr} (h : FpOk X pins H b) (hn : H' b = none) : FpOk X pins H' b := ⟨hn, h.2⟩
theorem Inv.pin2 {H : Hp} {s : Shared} {a b : Addr} {oa ob : Obj} (I : Inv X pins σ H s) (ha : FpOk X pins H a) (hb : FpOk X pins H b) (ea : s.heap.get? a = some oa) (eb : s.heap.get? b = some ob) (da : ∀ v, oa.data ≠ .cell v) (db : ∀ v, ob.data ≠ .cell v) : Inv X (pins ++ [(a, oa), (b, ob)]) σ H s :=
 I.pins_of fun p hp => by
  rcases List.mem_append.mp hp with hp | hp
  ·exact I.pin p (mem_append_right _ hp)
  ·simp only [mem_cons, not_mem_nil, or_false] at hp
   rcases hp with rfl | rfl
   ·exact ⟨ea, ha.1, ha.2.1, ha.2.2.1, da⟩
   ·exact ⟨eb, hb.1, hb.2.1, hb.2.2.1, db⟩
set_option maxHeartbeats 8000000 in
theorem min_loop {q : Addr} {mk : D -> Option D} (hk : KeyAt X (.ref q) mk) (hc : X.calm = true) (hu : X.A.units + 64 < cLine) {l I S : Addr} {xs : List V} {ds : List D} {kw : List (Str × Value)} {dm : D} (hIS : I ≠ S) (hlI : l ≠ I) (hlS : l ≠ S) :
  ∀ (r j : Nat) (H F H0 F0 : Hp) (s : Shared) (xb yb : V) (vb kb : Value) (db kdb : D) (c : Nat) (R : Result -> Shared -> Prop),
   ds.length - (j + 1) = r -> j + 1 <= ds.length -> Inv X pins σ H s -> Ext F0 H0 F H -> SqL X.K H l xs -> Reps X.K F xs ds -> s.heap.IsListIter I l (j + 1) -> s.heap.get? S = some (seqObj "list" #[vb, kb] c) -> FpOk X pins H I -> FpOk X pins H S ->
   RelV xb vb -> Rep X.K F xb db -> RelV yb kb -> Rep X.K F yb kdb -> minF mk (ds.drop (j + 1)) db kdb = some dm ->
   (∀ x v F' H' s', Inv X pins σ H' s' -> RelV x v -> Ext F0 H0 F' H' -> Rep X.K F' x dm -> R (.ok (.ret v)) s') ->
   codeAny (model X.prog X.w) X.A (.builtin "min.loop" ⟨[.ref I, .ref q, .ref S], kw⟩) R s := by
 have hname : (toString "min" ++ toString ".loop" : String) = "min.loop" := by decide
 intro r
 induction r with
 | zero =>
  intro j H F H0 F0 s xb yb vb kb db kdb c R hr hj I' ext sq rs hit hS fI fS rb pb ry py hm hR
  have hin : j + 1 = ds.length := by omega
  obtain ⟨its, vr, pl, _⟩ := I'.list sq
  have zl : its.length = ds.length := by rw [<- vr.length, rs.length]
  rw [hin, drop_length] at hm
  have hm : some db = some dm := hm
  cases hm
  refine codeAny_builtin PySem.F.entry_min_loop ?_
  rw [Around.under_plainId PySem.F.plain_min_loop _]
  show wpAny _ X.A.in1 (seqItems? (.ref S) >>= _) _ _ _
  refine wpAny_bind (wpAny_seqItems hS rfl ?_)
  show wpAny _ X.A.in1 (tryCatch (pyNext (.ref I)) _ >>= _) _ _ _
  refine wpAny_bind (wpAny_tryCatch (wpAny_pyNext_list_end (I'.ok.hd hc) hit pl.isList (by simp; omega) fun h' hk' => ?_))
  have hS' : h'.get? S = some (seqObj "list" #[vb, kb] c) := hk' S _ (Ne.symm hIS) hS
  have s1 := Heap.SameBut.update h' S (Obj.mapSeq fun _ => (#[] : Array Value))
  show wpAny _ X.A.in1 (updateSeq S (fun _ => #[]) >>= _) _ _ _
  refine wpAny_bind ?_
  refine wpAny_updateSeq hS' rfl (wpAny_bind (wpAny_letGo (wpAny_pure ?_)))
  have I9 : Inv X pins σ H { s with heap := h'.update S (Obj.mapSeq fun _ => (#[] : Array Value)), toks := s.toks } := I'.turnedL (fp := [I, S]) (t' := s.toks) (fun b o hb e => by
   simp only [mem_cons, not_mem_nil, or_false, not_or] at hb
   exact (s1.2 b hb.2).trans (hk' b o hb.1 e)) (fun b hb => by
   simp only [mem_cons, not_mem_nil, or_false] at hb
   rcases hb with rfl | rfl <;> assumption)
  exact hR xb vb F H _ I9 rb ext pb
 | succ r ih =>
  intro j H F H0 F0 s xb yb vb kb db kdb c R hr hj I' ext sq rs hit hS fI fS rb pb ry py hm hR
  have hlt : j + 1 < ds.length := by omega
  obtain ⟨its, vr, pl, _⟩ := I'.list sq
  have zl : its.length = ds.length := by rw [<- vr.length, rs.length]
  obtain ⟨d, hd⟩ : ∃ d, ds[j + 1]? = some d := ⟨_, getElem?_eq_getElem hlt⟩
  obtain ⟨x, hx, px⟩ := rs.get hd
  obtain ⟨v, hv, rx⟩ := vr.get hx
  rw [drop_get hd] at hm
  unfold minF at hm
  cases hkd : mk d with
  | none => rw [hkd] at hm; cases hm
  | some kd =>
   rw [hkd] at hm
   dsimp only at hm
   refine codeAny_builtin PySem.F.entry_min_loop ?_
   rw [Around.under_plainId PySem.F.plain_min_loop _]
   show wpAny _ X.A.in1 (seqItems? (.ref S) >>= _) _ _ _
   refine wpAny_bind (wpAny_seqItems hS rfl ?_)
   show wpAny _ X.A.in1 (tryCatch (pyNext (.ref I)) _ >>= _) _ _ _
   refine wpAny_bind (wpAny_tryCatch (wpAny_pyNext_list_item hit pl.isList (by simpa using hv) fun h1 hit1 s1 => ?_))
   have I1 : Inv X pins σ H { s with heap := h1, toks := s.toks } := I'.turnedL (fp := [I]) (fun b o hb e => s1.extBut b o (by simpa using hb) e) (fun b hb => by rw [List.mem_singleton.mp hb]; exact fI)
   have hS1 : h1.get? S = some (seqObj "list" #[vb, kb] c) := s1.extBut _ _ (Ne.symm hIS) hS
   obtain ⟨oI, eI, cI, dI⟩ := id hit1
   have Ip := I1.pin2 fI fS eI hS1 (fun v z => by rw [dI] at z; cases z) (fun v z => by cases z)
   show wpAny _ X.A.in1 (tryCatch (holding [v] (call (.ref q) [v])) _ >>= _) _ _ _
   refine wpAny_bind (wpAny_tryCatch (wpAny_holding (wpAny_mono (hk (pins ++ [(I, oI), (S, seqObj "list" #[vb, kb] c)]) σ H F _ x v d kd Ip ext.fh px rx hkd) (fun w s2 hw => ?_) fun _ _ z => z.elim)))
   obtain ⟨y, F2, H2, I2, rw2, x2, py2⟩ := hw
   have pI := I2.pin (I, oI) (by simp)
   have pS := I2.pin (S, seqObj "list" #[vb, kb] c) (by simp)
   have I2' : Inv X pins σ H2 s2 := I2.unpinned
   have fI2 : FpOk X pins H2 I := fI.now pI.2.1
   have fS2 : FpOk X pins H2 S := fS.now pS.2.1
   have hit2 : s2.heap.IsListIter I l (j + 1 + 1) := ⟨oI, pI.1, cI, dI⟩
   cases hlt8 : ltF 8 kd kdb with
   | none => rw [hlt8] at hm; cases hm
   | some bt =>
    rw [hlt8] at hm
    have hcmp := lt_at I2' 8 (A := X.A.in1) (by show X.A.units + 1 + 8 < cLine; omega) (py2.mono x2.fh) ((py.mono x2.ff).mono x2.fh) rw2 ry hlt8
    show wpAny _ X.A.in1 (tryCatch (holding [v, w] (richCompare .Lt w kb >>= _)) _ >>= _) _ _ _
    refine wpAny_bind (wpAny_tryCatch (wpAny_holding (wpAny_bind (hcmp X.prog X.w _ _ ?_))))
    refine wpAny_bind (wpAny_holding (wpAny_truthy_bool ?_))
    refine wpAny_bind (wpAny_letGo (wpAny_pure ?_))
    cases bt with
    | true =>
     have s3 := Heap.SameBut.update s2.heap S (Obj.mapSeq fun _ => #[v, w])
     obtain ⟨c2, hc2⟩ : ∃ c2, (s2.heap.update S (Obj.mapSeq fun _ => #[v, w])).get? S = some (seqObj "list" #[v, w] c2) := ⟨_, get?_update_seq pS.1 fun _ => #[v, w]⟩
     simp only [if_true]
     refine wpAny_bind ?_
     refine wpAny_updateSeq pS.1 rfl (wpAny_bind (wpAny_letGo ?_))
     rw [hname]
     have I3 : Inv X pins σ H2 { s2 with heap := s2.heap.update S (Obj.mapSeq fun _ => #[v, w]), toks := s2.toks } := I2'.turnedL (fp := [S]) (fun b o hb e => (s3.2 b (by simpa using hb)).trans e) (fun b hb => by rw [List.mem_singleton.mp hb]; exact fS2)
     refine wpAny_pure ⟨plainId_quiet PySem.F.plain_min_loop _, ih (j + 1) H2 F2 H0 F0 _ x y v w d kd c2 R (by omega) hlt I3 (ext.trans x2) (x2.hh.seq sq) (rs.mono x2.ff) ⟨oI, (s3.2 I hIS).trans pI.1, cI, dI⟩ hc2 fI2 fS2 rx (px.mono x2.ff) rw2 py2 hm hR⟩
    | false =>
     simp only [Bool.false_eq_true, if_false]
     refine wpAny_bind (wpAny_letGo ?_)
     rw [hname]
     refine wpAny_pure ⟨plainId_quiet PySem.F.plain_min_loop _, ih (j + 1) H2 F2 H0 F0 _ xb yb vb kb db kdb c R (by omega) hlt I2' (ext.trans x2) (x2.hh.seq sq) (rs.mono x2.ff) hit2 pS.1 fI2 fS2 rb (pb.mono x2.ff) ry (py.mono x2.ff) hm hR⟩
end
end
section
theorem args_min_kd (a v u : Value) : argsOk "min" ⟨[a], [(Str.ofString "key", v), (Str.ofString "default", u)]⟩ := by unfold argsOk; kernel_rfl
def minD (mk : D -> Option D) (ds : List D) (d0 : D) : Option D := match ds with
 | [] => some d0
 | d :: ds => (match mk d with | some kd => minF mk ds d kd | none => none)
section
variable {X : Cx} {pins : List (Addr × Obj)} {σ : St}
set_option maxHeartbeats 8000000 in
theorem min_top {q : Addr} {mk : D -> Option D} (hk : KeyAt X (.ref q) mk) (hc : X.calm = true) (hu : X.A.units + 64 < cLine) {l : Addr} {xs : List V} {ds : List D} {dm d0 : D} {H F : Hp} {s : Shared} {x0 : V} {v0 : Value} {E : Value -> Shared -> Prop} {Q : Value -> Shared -> Prop}
  (I : Inv X pins σ H s) (sf : Same F H) (sq : SqL X.K H l xs) (rs : Reps X.K F xs ds) (r0 : RelV x0 v0) (p0 : Rep X.K F x0 d0) (hm : minD mk ds d0 = some dm)
  (hQ : ∀ x v F' H' s', Inv X pins σ H' s' -> RelV x v -> Ext F H F' H' -> Rep X.K F' x dm -> Q v s') :
  wpAny (model X.prog X.w) X.A (call (.builtin "min") [.ref l] [(Str.ofString "key", .ref q), (Str.ofString "default", v0)]) Q E s := by
 have hname : (toString "min" ++ toString ".loop" : String) = "min.loop" := by decide
 obtain ⟨its, vr, pl, _⟩ := I.list sq
 have hls := pl.isList
 obtain ⟨ol, hol, _⟩ := id hls
 have hll : l < s.heap.objs.size := Heap.lt_size hol
 refine kmk_tree PySem.F.kind_min PySem.F.plain_min PySem.F.entry_min (args_min_kd _ _ _) ?_
 show wpAny _ X.A.in1 (Builtin.Builtins.bindParams "min" ["key", "default"] 0 ⟨[], [(Str.ofString "key", .ref q), (Str.ofString "default", v0)]⟩ >>= _) _ _ s
 refine wpAny_bind (wpAny_of_eq (show Builtin.Builtins.bindParams "min" ["key", "default"] 0 ⟨[], [(Str.ofString "key", .ref q), (Str.ofString "default", v0)]⟩ = pure [some (.ref q), some v0] from rfl) ?_)
 refine wpAny_bind (wpAny_pure ?_)
 refine wpAny_bind (wpAny_pyIter_list hls ?_)
 refine wpAny_bind (wpAny_newList ?_ (Nat.zero_le _))
 rw [hname]
 refine wpAny_pure ⟨plainId_quiet PySem.F.plain_min_loop _, ?_⟩
 generalize hIo : ({ cls := .type "list_iterator", data := .fields #[.ref l, .int 0 0] } : Obj) = oI0
 have hS : (s.heap.push oI0).objs.size = s.heap.objs.size + 1 := size_push' ..
 have hlI : l ≠ s.heap.objs.size := Nat.ne_of_lt hll
 have hlS : l ≠ (s.heap.push oI0).objs.size := by rw [hS]; exact Nat.ne_of_lt (Nat.lt_succ_of_lt hll)
 have hIS : s.heap.objs.size ≠ (s.heap.push oI0).objs.size := by rw [hS]; exact Nat.ne_of_lt (Nat.lt_succ_self _)
 have gI : ((s.heap.push oI0).push (seqObj "list" #[] 0)).get? s.heap.objs.size = some oI0 := Heap.get?_push_of_some _ (Heap.get?_push_size _ (by rw [<- hIo]; rfl))
 have gS : ((s.heap.push oI0).push (seqObj "list" #[] 0)).get? (s.heap.push oI0).objs.size = some (seqObj "list" #[] 0) := Heap.get?_push_size _ rfl
 have fI : FpOk X pins H s.heap.objs.size := I.fpOk (Nat.le_refl _) (I.hok.fresh (Nat.le_refl _))
 have fS : FpOk X pins H (s.heap.push oI0).objs.size := I.fpOk (by rw [hS]; exact Nat.le_succ _) (I.hok.fresh (by rw [hS]; exact Nat.le_succ _))
 have I0 : Inv X pins σ H { s with heap := (s.heap.push oI0).push (seqObj "list" #[] 0), toks := s.toks } := I.turnedL (fp := []) (fun b o _ e => Heap.get?_push_of_some _ (Heap.get?_push_of_some _ e)) (fun b hb => by cases hb)
 generalize (s.heap.push oI0).objs.size = S at *
 generalize hI : s.heap.objs.size = J at *
 generalize (s.heap.push oI0).push (seqObj "list" #[] 0) = h0 at *
 have hit : h0.IsListIter J l 0 := ⟨_, gI, by rw [<- hIo], by rw [<- hIo]; rfl⟩
 have zl : its.length = ds.length := by rw [<- vr.length, rs.length]
 obtain ⟨its', vr', pl', _⟩ := I0.list sq
 have zl' : its'.length = ds.length := by rw [<- vr'.length, rs.length]
 refine codeAny_builtin PySem.F.entry_min_loop ?_
 rw [Around.under_plainId PySem.F.plain_min_loop _]
 show wpAny _ X.A.in1 (seqItems? (.ref S) >>= _) _ _ _
 refine wpAny_bind (wpAny_seqItems gS rfl ?_)
 show wpAny _ X.A.in1 (tryCatch (pyNext (.ref J)) _ >>= _) _ _ _
 cases ds with
 | nil =>
  have hm : some d0 = some dm := hm
  cases hm
  refine wpAny_bind (wpAny_tryCatch (wpAny_pyNext_list_end (I.ok.hd hc) hit pl'.isList (by simp at zl' ⊢; simp [zl']) fun h' hk' => ?_))
  refine wpAny_bind (wpAny_rule (wpAny_pure ?_))
  have I9 := I0.turnedL (h' := h') (fp := [J]) (t' := s.toks) (fun b o hb e => hk' b o (by simpa using hb) e) (fun b hb => by rw [List.mem_singleton.mp hb]; exact fI)
  exact hQ x0 v0 F H _ I9 r0 (Ext.refl sf) p0
 | cons d ds =>
  obtain ⟨x, hx, px⟩ := rs.get (i := 0) (d := d) rfl
  obtain ⟨v, hv, rx⟩ := vr'.get hx
  unfold minD at hm
  dsimp only at hm
  cases hkd : mk d with
  | none => rw [hkd] at hm; cases hm
  | some kd =>
   rw [hkd] at hm
   dsimp only at hm
   refine wpAny_bind (wpAny_tryCatch (wpAny_pyNext_list_item hit pl'.isList (by simpa using hv) fun h1 hit1 s1 => ?_))
   have I1 := I0.turnedL (h' := h1) (t' := s.toks) (fp := [J]) (fun b o hb e => s1.extBut b o (by simpa using hb) e) (fun b hb => by rw [List.mem_singleton.mp hb]; exact fI)
   have hS1 : h1.get? S = some (seqObj "list" #[] 0) := s1.extBut _ _ (Ne.symm hIS) gS
   obtain ⟨oI, eI, cI, dI⟩ := id hit1
   have Ip := I1.pin2 fI fS eI hS1 (fun v z => by rw [dI] at z; cases z) (fun v z => by cases z)
   show wpAny _ X.A.in1 (tryCatch (holding [v] (call (.ref q) [v])) _ >>= _) _ _ _
   refine wpAny_bind (wpAny_tryCatch (wpAny_holding (wpAny_mono (hk (pins ++ [(J, oI), (S, seqObj "list" #[] 0)]) σ H F _ x v d kd Ip sf px rx hkd) (fun w s2 hw => ?_) fun _ _ z => z.elim)))
   obtain ⟨y, F2, H2, I2, rw2, x2, py2⟩ := hw
   have pI := I2.pin (J, oI) (by simp)
   have pS := I2.pin (S, seqObj "list" #[] 0) (by simp)
   have I2' : Inv X pins σ H2 s2 := I2.unpinned
   have fI2 : FpOk X pins H2 J := fI.now pI.2.1
   have fS2 : FpOk X pins H2 S := fS.now pS.2.1
   have s3 := Heap.SameBut.update s2.heap S (Obj.mapSeq fun _ => #[v, w])
   obtain ⟨c2, hc2⟩ : ∃ c2, (s2.heap.update S (Obj.mapSeq fun _ => #[v, w])).get? S = some (seqObj "list" #[v, w] c2) := ⟨_, get?_update_seq pS.1 fun _ => #[v, w]⟩
   show wpAny _ X.A.in1 (updateSeq S (fun _ => #[v, w]) >>= _) _ _ _
   refine wpAny_bind (wpAny_updateSeq pS.1 rfl ?_)
   rw [hname]
   have I3 : Inv X pins σ H2 { s2 with heap := s2.heap.update S (Obj.mapSeq fun _ => #[v, w]), toks := s2.toks } := I2'.turnedL (fp := [S]) (fun b o hb e => (s3.2 b (by simpa using hb)).trans e) (fun b hb => by rw [List.mem_singleton.mp hb]; exact fS2)
   refine wpAny_pure ⟨plainId_quiet PySem.F.plain_min_loop _, min_loop hk hc hu (ds := d :: ds) (dm := dm) hIS hlI hlS _ 0 H2 F2 H F _ x y v w d kd c2 _ rfl (by simp) I3 x2 (x2.hh.seq sq) (rs.mono x2.ff) ⟨oI, (s3.2 J hIS).trans pI.1, cI, dI⟩ hc2 fI2 fS2 rx (px.mono x2.ff) rw2 py2 hm fun x v F' H' s' a b c d => hQ x v F' H' s' a b c d⟩
@[irreducible] def mminK (mk : D -> Option D) (m : ML) (md : ME) : ME := fun ρ => (m ρ).bind fun ds => (md ρ).bind fun d0 => minD mk ds d0
theorem mminK_some {mk : D -> Option D} {m : ML} {md : ME} {ρ : Ro} {g : D} (h : mminK mk m md ρ = some g) : ∃ ds d0, m ρ = some ds /\ md ρ = some d0 /\ minD mk ds d0 = some g := by
 unfold mminK at h
 cases h1 : m ρ with
 | none => rw [h1] at h; cases h
 | some d =>
  cases h2 : md ρ with
  | none => rw [h1, h2] at h; cases h
  | some e => rw [h1, h2] at h; exact ⟨d, e, rfl, rfl, h⟩
theorem mminK_ev {mk : D -> Option D} {m : ML} {md : ME} {ρ : Ro} {ds : List D} {d0 : D} (h1 : m ρ = some ds) (h2 : md ρ = some d0) : mminK mk m md ρ = minD mk ds d0 := by
 unfold mminK
 rw [h1, h2]; rfl
theorem pd_minK {q : Addr} {mk : D -> Option D} {x : Str} {p pf kp kp2 pos : Pos} {e ed : Expr} {m : ML} {md : ME} (hk : KeyAt X (.ref q) mk) (hc : X.calm = true) (hu : X.A.units + 64 < cLine) (hg : Gl X "min") (hm : X.mg "min" = none) (hgf : Gl X x) (hmf : X.mg x = some (.ref q)) (ha : PB X e m) (hd : PD X ed md)
  (hdb : (x == ("__debug__" : Str)) = false := by decide) (hs : starEach (e :: []) X.env = (false, eval e X.env) :: starEach [] X.env := by rfl) :
  PD X (.Call (.Name "min" p) [e] [⟨some "key", .Name x pf, kp⟩, ⟨some "default", ed, kp2⟩] pos) (mminK mk m md) := by
 intro pins s σ H Q I h
 obtain ⟨F0, H0, F, ρ, g, rl, em, q0⟩ := h
 obtain ⟨ds, d0, h1, h2, h3⟩ := mminK_some em
 refine wpAny_Call_Name_kw (ld_blt I hg hm PyProof.Rows.boot_min ?_ (by decide) (by decide))
 have A := pa_cons ha pa_nil hs pos pins s σ H (fun vs H1 => ∃ p xs F1, vs = [.ref p] /\ Ext F H F1 H1 /\ SqL X.K H1 p xs /\ Reps X.K F1 xs ds) I ⟨F0, H0, F, ρ, ds, rl, h1, fun p xs F1 H1 x1 s1 r1 => ⟨p, xs, F1, rfl, x1, s1, r1⟩⟩
 refine callWith_kw (thn A fun us s1 hpat => ?_) (by rw [hs]; rfl) (by rw [hs]; rfl)
 obtain ⟨vs, H1, I1, r1, p, xs, F1, ev, x1, sq, rs⟩ := hpat
 subst ev
 obtain ⟨u, rfl, ru⟩ := vals1 r1
 cases ru
 have B := pk_cons (nm := some "key") (kpos := kp) (pe_glob (v := .ref q) (pos := pf) hgf hmf rfl hdb) (pk_cons (nm := some "default") (kpos := kp2) hd pk_nil) pos pins s1 σ H1 (fun vs H2 => ∃ y F2, vs = [.ref q, y] /\ Ext F1 H1 F2 H2 /\ Rep X.K F2 y d0) I1 ⟨F0, H0, F1, ρ, d0, rl.go x1, h2, fun y F2 H2 x2 r2 => ⟨y, F2, rfl, x2, r2⟩⟩
 refine thn B fun us s2 hpat => ?_
 obtain ⟨vs, H2, I2, r2, y, F2, ev, x2, p0⟩ := hpat
 subst ev
 obtain ⟨u1, u2, rfl, ru1, ru2⟩ := vals2 r2
 cases ru1
 exact min_top hk hc hu I2 x2.fh (x2.hh.seq sq) (rs.mono x2.ff) ru2 p0 h3 fun x v F' H' s' I' rx x3 px => ⟨x, H', I', rx, q0 x F' H' ((x1.trans x2).trans x3) px⟩
end
end
section
section
variable {prog : Program} {w : World} {A : Around} {E : Value -> Shared -> Prop} {s : Shared}
theorem sub_rit_reversed : isSubtype (.type "range_iterator") (.type "reversed") = pure false := by rw [isSubtype_type]; kernel_rfl
def ritObj (x left step : Int) : Obj := { cls := .type "range_iterator", dict := none, data := .fields #[rawInt x, rawInt left, rawInt step], slots := #[] }
theorem call_range_reversed {l : Addr} {j : Int} {t u v : Tok} {Q : Value -> Shared -> Prop} (hl : IsRange s.heap l 0 j 1 t u v) (h1 : -(2 ^ 62) <= j) (h2 : j < 2 ^ 62)
  (h : Q (.ref s.heap.objs.size) { s with heap := s.heap.push (ritObj ((j.toNat : Int) - 1) j.toNat (-1)) }) : wpAny (model prog w) A (call (.builtin "range.__reversed__") [.ref l]) Q E s := by
 have hT : s.TypeIs (.ref l) "range" := ⟨_, hl, rfl⟩
 refine wpAny_call_entry F.slot_range_reversed hT F.entry_range_reversed ?_ (F.args_range_reversed_1 _)
 have hsz : Builtin.Range.rangeSize 0 j 1 = (j.toNat : Int) := by rw [rangeSize_one]; split <;> omega
 unfold Builtin.«range.__reversed__»
 refine wpAny_bind (wpAny_of_eq (a := Value.ref l) rfl ?_)
 unfold Builtin.Range.rangeFields
 refine wpAny_bind ?_
 refine wpAny_bind (wpAny_field hl rfl (x := .int 0 t) rfl ?_)
 refine wpAny_bind (wpAny_of_eq (a := some (0 : Int)) rfl ?_)
 refine wpAny_bind (wpAny_field hl rfl (x := .int j u) rfl ?_)
 refine wpAny_bind (wpAny_of_eq (a := some j) rfl ?_)
 refine wpAny_bind (wpAny_field hl rfl (x := .int 1 v) rfl ?_)
 refine wpAny_bind (wpAny_of_eq (a := some (1 : Int)) rfl ?_)
 refine wpAny_pure ?_
 dsimp only
 rw [hsz]
 have hsm : (Builtin.Range.rangeFitsLong 0 && Builtin.Range.rangeFitsLong j && Builtin.Range.rangeFitsLong 1 && Builtin.Range.rangeFitsLong (-1) && Builtin.Range.rangeFitsLong (0 - 1) && Builtin.Range.rangeFitsLong (j.toNat : Int)) = true := by
  simp only [Builtin.Range.rangeFitsLong, Bool.and_eq_true, decide_eq_true_eq]
  omega
 simp only [hsm, Bool.not_true, Bool.false_eq_true, if_false, if_true]
 have e : (0 : Int) + ((j.toNat : Int) - 1) * 1 = (j.toNat : Int) - 1 := by omega
 rw [e]
 exact wpAny_bind (wpAny_newObj_type (wpAny_pure ⟨_, rfl, h⟩))
theorem code_reversed_newR {l : Addr} {j : Int} {t u v : Tok} {Q₁ : Value -> Shared -> Prop} (hl : IsRange s.heap l 0 j 1 t u v) (h1 : -(2 ^ 62) <= j) (h2 : j < 2 ^ 62)
  (h : Q₁ (.ref s.heap.objs.size) { s with heap := s.heap.push (ritObj ((j.toNat : Int) - 1) j.toNat (-1)) }) :
  codeAny (model prog w) A (.call (.builtin "reversed.__new__") ⟨[.type "reversed", .ref l], []⟩) (wants Q₁ E) s := by
 have hT : s.TypeIs (.ref l) "range" := ⟨_, hl, rfl⟩
 refine codeAny_of_tree ?_
 show wpAny _ A.in1 (do checkBuiltinCall "reversed.__new__" ⟨[.type "reversed", .ref l], []⟩; again (.builtin "reversed.__new__" ⟨[.type "reversed", .ref l], []⟩)) _ _ s
 refine wpAny_bind (wpAny_of_eq (F.newCall_reversed_1 _) (wpAny_pure ⟨plainId_quiet F.plain_reversed_new _, codeAny_builtin F.entry_reversed_new ?_⟩))
 rw [Around.under_plainId F.plain_reversed_new _]
 unfold Builtin.«reversed.__new__»
 refine wpAny_bind (wpAny_of_eq (newClass_reversed _) ?_)
 try dsimp only
 refine wpAny_bind (wpAny_of_eq (a := ()) (by first | rfl | kernel_rfl) ?_)
 refine wpAny_bind (wpAny_of_eq (a := ()) (by first | rfl | kernel_rfl) ?_)
 try dsimp only
 refine wpAny_bind (wpAny_specialOf hT F.slot_range_reversed.lookup ?_)
 try dsimp only
 refine wpAny_bind (wpAny_of_eq (F.slot_range_reversed.bind _) ?_)
 try dsimp only
 first
 | rw [if_neg (show ¬ ((Value.builtin "range.__reversed__" == Value.none) = true) from Bool.false_ne_true)]
 | (show wpAny _ _ (if (Value.builtin "range.__reversed__" == Value.none) = true then _ else _) _ _ _; rw [if_neg (show ¬ ((Value.builtin "range.__reversed__" == Value.none) = true) from Bool.false_ne_true)])
 refine wpAny_bind (wpAny_rule ?_)
 refine wpAny_bind (m := runValue (.call (.builtin "range.__reversed__") ⟨[.ref l], []⟩)) (show wpAny _ _ (call (.builtin "range.__reversed__") [.ref l]) _ _ _ from call_range_reversed hl h1 h2 ?_)
 first
 | exact wpAny_pure h
 | exact wpAny_bind (wpAny_pure (wpAny_pure h))
theorem call_reversed_range {l : Addr} {j : Int} {t u v : Tok} {Q : Value -> Shared -> Prop} (hl : IsRange s.heap l 0 j 1 t u v) (h1 : -(2 ^ 62) <= j) (h2 : j < 2 ^ 62)
  (h : Q (.ref s.heap.objs.size) { s with heap := s.heap.push (ritObj ((j.toNat : Int) - 1) j.toNat (-1)) }) : wpAny (model prog w) A (call (.type "reversed") [.ref l]) Q E s := by
 refine callType_other (U := "range_iterator") (Q₁ := fun obj s₁ => obj = .ref s.heap.objs.size /\ s₁ = { s with heap := s.heap.push (ritObj ((j.toNat : Int) - 1) j.toNat (-1)) }) (by decide +kernel) F.create_reversed ⟨_, _, F.mro_reversed⟩ F.made_reversed sub_rit_reversed (F.typeCall_reversed_1 _) (code_reversed_newR hl h1 h2 ⟨rfl, rfl⟩) ?_
 rintro obj s₁ ⟨rfl, rfl⟩
 exact ⟨⟨_, Heap.get?_push_size _ rfl, rfl⟩, h⟩
end
def Itdn (hi : Int) (n : Nat) : It := ⟨fun i _ => i < n, fun i H x H' => H' = H /\ x = .int (hi - i), fun i _ => n <= i⟩
theorem turn_down {P : Program} {w : World} {K : PySem.W.Frag} {tg : Expr} (it : Addr) (lo : Int) (n : Nat) : Turn P w K tg (Itdn lo n) [it] it (fun i h => IsRangeIter h it (lo + (i : Nat) * (-1)) ((n : Int) - (i : Nat)) (-1)) where
 mem := by simp
 obj := fun i h st b hb => by
  have e : b = it := by simpa using hb
  subst e
  exact ⟨_, st, fun v z => by
   have z' : Data.fields _ = Data.cell v := z
   cases z'⟩
 keep := fun i h h' st k => k it (by simp) _ st
 item := by
  intro X hP hw hK hc i pins s σ H E I hf st hg
  subst hP hw hK
  obtain ⟨f0, f1, f2, f3, f4, f5⟩ := hf it (by simp)
  have W := Walks.range (prog := X.prog) (w := X.w) (I.ok.hd hc) it lo (-1) n
  refine W.item i s _ _ hg st fun v h' tk hv st' kk => ?_
  obtain ⟨t, rfl⟩ := hv
  have I1 : Inv X pins σ H { s with heap := h', toks := tk } := I.turned (fun b o hb e => kk b o (by simpa using hb) e) f0 f1 f3 f4 f5
  refine ⟨_, rfl, go_of (s := { s with heap := h', toks := tk }) (n := "range_iterator") st' rfl rfl (by decide) ⟨.int (lo - i), H, I1, ⟨t, ?_⟩, ⟨rfl, rfl⟩, st', fun b hb => (hf b hb).1⟩⟩
  rw [show lo + (i : Int) * (-1) = lo - i by omega]
 done := by
  intro X hP hw hK hc i pins s σ H E I hf st hg
  subst hP hw hK
  obtain ⟨f0, f1, f2, f3, f4, f5⟩ := hf it (by simp)
  exact wpAny_pyNext_range_end (I.ok.hd hc) st (by have : n <= i := hg; omega) fun h' eb => ⟨rfl, I.turned (t' := s.toks) (fun b o hb e => eb b o hb e) f0 f1 f3 f4 f5⟩
 self := fun _ _ _ _ _ st h => wpAny_pyIter_rangeiter st h
section
variable {X : Cx}
def downD (n : Nat) : List D := (List.range n).map fun (i : Nat) => D.int ((n : Int) - 1 - (i : Int))
theorem downD_length (n : Nat) : (downD n).length = n := by unfold downD; simp
theorem itd_down {K : W.Frag} {F : Hp} {n : Nat} : ItD K F (Itdn ((n : Int) - 1) n) (downD n) where
 go := fun i F1 H1 a b hi => by rw [downD_length] at hi; exact hi
 yld := fun i F1 H1 x H2 d a b e y => by
  obtain ⟨rfl, rfl⟩ := y
  unfold downD at e
  rw [getElem?_map] at e
  have hi : i < n := by
   rcases Nat.lt_or_ge i n with h | h
   ·exact h
   ·rw [getElem?_eq_none (by simpa using h)] at e; cases e
  rw [getElem?_range hi] at e
  cases e
  exact ⟨F1, .refl b, .int _⟩
 stop := fun F1 H1 a b => by rw [downD_length]; exact Nat.le_refl n
def rngD : List D -> Option (List D)
 | [.int j] => if okR j = true then some (downD j.toNat) else none
 | _ => none
theorem pid_revR1 {tg a : Expr} {m : ML} {p p2 pos pos2 : Pos} (hg : Gl X "reversed") (hm : X.mg "reversed" = none) (hg' : Gl X "range") (hm' : X.mg "range" = none) (ha : PAs X [a] m) (he : starEach [a] X.env = (false, eval a X.env) :: starEach [] X.env := by rfl)
  (hpl : ∀ pos, (backTo pos (starEach [] X.env)).any (·.1) = false := by intro _; rfl)
  (hs : starEach (Expr.Call (.Name "range" p2) [a] [] pos2 :: []) X.env = (false, eval (Expr.Call (.Name "range" p2) [a] [] pos2) X.env) :: starEach [] X.env := by rfl) :
  PId X tg (.Call (.Name "reversed" p) [.Call (.Name "range" p2) [a] [] pos2] [] pos) (mlist rngD m) := by
 intro pins s σ H R I h
 obtain ⟨F0, H0, F, ρ, its, rl, e, q⟩ := h
 obtain ⟨ds, h1, h2⟩ := mlist_some e
 have A := pa_cons (pe_callTy call_rng1 hg' hm' boot_range ha (by decide) (by decide) he (hpl _)) pa_nil hs pos pins s σ H (fun vs H1 => ∃ p j F1 H2, vs = [.ref p] /\ ds = [.int j] /\ H2 p = none /\ H1 = upd H2 p (.rng 0 j) /\ Ext F H F1 H2) I ⟨F0, H0, F, ρ, ds, rl, h1, fun vs F1 H1 x1 r1 => by
  unfold rngD at h2
  split at h2
  ·rename_i j
   cases r1 with
   | cons r rr =>
    cases rr; cases r
    exact ⟨j, rfl, fun p hp => ⟨p, j, F1, H1, rfl, rfl, hp, rfl, x1⟩⟩
  ·cases h2⟩
 refine Call_ (ld_blt I hg hm boot_reversed (PyProof.Rows.callWith_type1 (thn A fun us s1 hpat => ?_) hs (hpl _)))
 obtain ⟨vs, H1, I1, r1, q1⟩ := hpat
 obtain ⟨l, j, F1, H2, ev, ed, hn, eH, x1⟩ := q1
 subst ev ed eH
 obtain ⟨u, rfl, ru⟩ := vals1 r1
 cases ru
 have h2 : (if okR j = true then some (downD j.toNat) else none) = some its := h2
 split at h2
 case isFalse => cases h2
 rename_i hk
 cases h2
 unfold okR at hk
 simp only [Bool.and_eq_true, decide_eq_true_eq] at hk
 obtain ⟨t, u, v, eo⟩ := I1.hok l _ upd_same
 refine call_reversed_range (j := j) eo hk.1 hk.2 ?_
 have hit : IsRangeIter (s1.heap.push (ritObj ((j.toNat : Int) - 1) j.toNat (-1))) s1.heap.objs.size ((j.toNat : Int) - 1) j.toNat (-1) := Heap.get?_push_size _ rfl
 refine wpAny_pyIter_rangeiter hit ?_
 have x2 : Ext F H F1 (upd H2 l (.rng 0 j)) := x1.trans (Ext.own x1.fh hn)
 refine ⟨s1.heap.objs.size, [s1.heap.objs.size], _, _, _, rfl, I1.kept (t' := s1.toks) fun b o e => Heap.get?_push_of_some _ e, turn_down _ ((j.toNat : Int) - 1) j.toNat, ?_, fun b hb => ?_, q _ F1 _ x2 itd_down⟩
 ·have e1 : ((j.toNat : Int) - 1) + ((0 : Nat) : Int) * (-1) = (j.toNat : Int) - 1 := by simp
  have e2 : ((j.toNat : Nat) : Int) - ((0 : Nat) : Int) = j.toNat := by simp
  show IsRangeIter _ _ (((j.toNat : Int) - 1) + ((0 : Nat) : Int) * (-1)) (((j.toNat : Nat) : Int) - ((0 : Nat) : Int)) (-1)
  rw [e1, e2]
  exact hit
 ·have e : b = s1.heap.objs.size := by simpa using hb
  subst e
  exact I1.fpOk (Nat.le_refl _) (I1.hok.fresh (Nat.le_refl _))
end
end
section
section
variable {X : Cx} {a b : Expr} {pos : Pos}
end
end
section
section
variable {X : Cx} {e : Expr} {pos : Pos} {es : List Expr} {E : XK} {mf : MG} {st : Stmt} {na : MEm}
end
section
variable {X : Cx} {a b : Expr} {pos : Pos}
end
end
section
section
variable {X : Cx} {pins : List (Addr × Obj)} {σ : St}
end
end
section
section
variable {X : Cx} {pins : List (Addr × Obj)} {σ : St}
end
end
section
def minP : List D -> D -> Option D
 | [], b => some b
 | d :: ds, b => (match ltF 8 d b with | some true => minP ds d | some false => minP ds b | none => none)
section
variable {X : Cx} {pins : List (Addr × Obj)} {σ : St}
set_option maxHeartbeats 8000000 in
theorem min_loop0 (hc : X.calm = true) (hu : X.A.units + 64 < cLine) {l I S : Addr} {xs : List V} {ds : List D} {kw : List (Str × Value)} {dm : D} (hIS : I ≠ S) (hlI : l ≠ I) (hlS : l ≠ S) :
  ∀ (r j : Nat) (H F H0 F0 : Hp) (s : Shared) (xb : V) (vb : Value) (db : D) (c : Nat) (R : Result -> Shared -> Prop),
   ds.length - (j + 1) = r -> j + 1 <= ds.length -> Inv X pins σ H s -> Ext F0 H0 F H -> SqL X.K H l xs -> Reps X.K F xs ds -> s.heap.IsListIter I l (j + 1) -> s.heap.get? S = some (seqObj "list" #[vb, vb] c) -> FpOk X pins H I -> FpOk X pins H S ->
   RelV xb vb -> Rep X.K F xb db -> minP (ds.drop (j + 1)) db = some dm ->
   (∀ x v F' H' s', Inv X pins σ H' s' -> RelV x v -> Ext F0 H0 F' H' -> Rep X.K F' x dm -> R (.ok (.ret v)) s') ->
   codeAny (model X.prog X.w) X.A (.builtin "min.loop" ⟨[.ref I, .none, .ref S], kw⟩) R s := by
 have hname : (toString "min" ++ toString ".loop" : String) = "min.loop" := by decide
 intro r
 induction r with
 | zero =>
  intro j H F H0 F0 s xb vb db c R hr hj I' ext sq rs hit hS fI fS rb pb hm hR
  have hin : j + 1 = ds.length := by omega
  obtain ⟨its, vr, pl, _⟩ := I'.list sq
  have zl : its.length = ds.length := by rw [<- vr.length, rs.length]
  rw [hin, drop_length] at hm
  have hm : some db = some dm := hm
  cases hm
  refine codeAny_builtin PySem.F.entry_min_loop ?_
  rw [Around.under_plainId PySem.F.plain_min_loop _]
  show wpAny _ X.A.in1 (seqItems? (.ref S) >>= _) _ _ _
  refine wpAny_bind (wpAny_seqItems hS rfl ?_)
  show wpAny _ X.A.in1 (tryCatch (pyNext (.ref I)) _ >>= _) _ _ _
  refine wpAny_bind (wpAny_tryCatch (wpAny_pyNext_list_end (I'.ok.hd hc) hit pl.isList (by simp; omega) fun h' hk' => ?_))
  have hS' : h'.get? S = some (seqObj "list" #[vb, vb] c) := hk' S _ (Ne.symm hIS) hS
  have s1 := Heap.SameBut.update h' S (Obj.mapSeq fun _ => (#[] : Array Value))
  show wpAny _ X.A.in1 (updateSeq S (fun _ => #[]) >>= _) _ _ _
  refine wpAny_bind ?_
  refine wpAny_updateSeq hS' rfl (wpAny_bind (wpAny_letGo (wpAny_pure ?_)))
  have I9 : Inv X pins σ H { s with heap := h'.update S (Obj.mapSeq fun _ => (#[] : Array Value)), toks := s.toks } := I'.turnedL (fp := [I, S]) (t' := s.toks) (fun b o hb e => by
   simp only [mem_cons, not_mem_nil, or_false, not_or] at hb
   exact (s1.2 b hb.2).trans (hk' b o hb.1 e)) (fun b hb => by
   simp only [mem_cons, not_mem_nil, or_false] at hb
   rcases hb with rfl | rfl <;> assumption)
  exact hR xb vb F H _ I9 rb ext pb
 | succ r ih =>
  intro j H F H0 F0 s xb vb db c R hr hj I' ext sq rs hit hS fI fS rb pb hm hR
  have hlt : j + 1 < ds.length := by omega
  obtain ⟨its, vr, pl, _⟩ := I'.list sq
  have zl : its.length = ds.length := by rw [<- vr.length, rs.length]
  obtain ⟨d, hd⟩ : ∃ d, ds[j + 1]? = some d := ⟨_, getElem?_eq_getElem hlt⟩
  obtain ⟨x, hx, px⟩ := rs.get hd
  obtain ⟨v, hv, rx⟩ := vr.get hx
  rw [drop_get hd] at hm
  unfold minP at hm
  refine codeAny_builtin PySem.F.entry_min_loop ?_
  rw [Around.under_plainId PySem.F.plain_min_loop _]
  show wpAny _ X.A.in1 (seqItems? (.ref S) >>= _) _ _ _
  refine wpAny_bind (wpAny_seqItems hS rfl ?_)
  show wpAny _ X.A.in1 (tryCatch (pyNext (.ref I)) _ >>= _) _ _ _
  refine wpAny_bind (wpAny_tryCatch (wpAny_pyNext_list_item hit pl.isList (by simpa using hv) fun h1 hit1 s1 => ?_))
  have I1 : Inv X pins σ H { s with heap := h1, toks := s.toks } := I'.turnedL (fp := [I]) (fun b o hb e => s1.extBut b o (by simpa using hb) e) (fun b hb => by rw [List.mem_singleton.mp hb]; exact fI)
  have hS1 : h1.get? S = some (seqObj "list" #[vb, vb] c) := s1.extBut _ _ (Ne.symm hIS) hS
  cases hlt8 : ltF 8 d db with
  | none => rw [hlt8] at hm; cases hm
  | some bt =>
   rw [hlt8] at hm
   have hcmp := lt_at I1 8 (A := X.A.in1) (by show X.A.units + 1 + 8 < cLine; omega) (px.mono ext.fh) (pb.mono ext.fh) rx rb hlt8
   refine wpAny_bind (wpAny_pure ?_)
   show wpAny _ X.A.in1 (tryCatch (holding [v, v] (richCompare .Lt v vb >>= _)) _ >>= _) _ _ _
   refine wpAny_bind (wpAny_tryCatch (wpAny_holding (wpAny_bind (hcmp X.prog X.w _ _ ?_))))
   refine wpAny_bind (wpAny_holding (wpAny_truthy_bool ?_))
   refine wpAny_bind (wpAny_letGo (wpAny_pure ?_))
   cases bt with
   | true =>
    have s3 := Heap.SameBut.update h1 S (Obj.mapSeq fun _ => #[v, v])
    obtain ⟨c2, hc2⟩ : ∃ c2, (h1.update S (Obj.mapSeq fun _ => #[v, v])).get? S = some (seqObj "list" #[v, v] c2) := ⟨_, get?_update_seq hS1 fun _ => #[v, v]⟩
    simp only [if_true]
    refine wpAny_bind ?_
    refine wpAny_updateSeq hS1 rfl (wpAny_bind (wpAny_letGo ?_))
    rw [hname]
    have I3 := I1.turnedL (h' := h1.update S (Obj.mapSeq fun _ => #[v, v])) (t' := s.toks) (fp := [S]) (fun b o hb e => (s3.2 b (by simpa using hb)).trans e) (fun b hb => by rw [List.mem_singleton.mp hb]; exact fS)
    refine wpAny_pure ⟨plainId_quiet PySem.F.plain_min_loop _, ih (j + 1) H F H0 F0 _ x v d c2 R (by omega) hlt I3 ext sq rs (hit1.at fun o e => (s3.2 I hIS).trans e) hc2 fI fS rx px hm hR⟩
   | false =>
    simp only [Bool.false_eq_true, if_false]
    refine wpAny_bind (wpAny_letGo ?_)
    rw [hname]
    refine wpAny_pure ⟨plainId_quiet PySem.F.plain_min_loop _, ih (j + 1) H F H0 F0 _ xb vb db c R (by omega) hlt I1 ext sq rs hit1 hS1 fI fS rb pb hm hR⟩
end
theorem args_min_1 (a : Value) : argsOk "min" ⟨[a], []⟩ := by unfold argsOk; kernel_rfl
def rMinP (K : W.Frag) : List V -> Hp -> VK -> Prop := fun vs H Q => ∃ p xs d ds dm F, vs = [.ref p] /\ SqL K H p xs /\ Same F H /\ Reps K F xs (d :: ds) /\ minP ds d = some dm /\ ∀ x F' H', Ext F H F' H' -> Rep K F' x dm -> Q x H'
section
variable {X : Cx}
set_option maxHeartbeats 8000000 in
theorem call_minP (hc : X.calm = true) (hu : X.A.units + 64 < cLine) : CallR X (.builtin "min") (rMinP X.K) := by
 intro pins s σ H vs us Q I r h
 obtain ⟨l, xs, d, ds, dm, F, rfl, sq, sf, rs, hm, q⟩ := h
 obtain ⟨u, rfl, ru⟩ := vals1 r
 cases ru
 have hname : (toString "min" ++ toString ".loop" : String) = "min.loop" := by decide
 obtain ⟨its, vr, pl, _⟩ := I.list sq
 have hls := pl.isList
 obtain ⟨ol, hol, _⟩ := id hls
 have hll : l < s.heap.objs.size := Heap.lt_size hol
 refine kmk_tree PySem.F.kind_min PySem.F.plain_min PySem.F.entry_min (args_min_1 _) ?_
 show wpAny _ X.A.in1 (Builtin.Builtins.bindParams "min" ["key", "default"] 0 ⟨[], []⟩ >>= _) _ _ s
 refine wpAny_bind (wpAny_of_eq (show Builtin.Builtins.bindParams "min" ["key", "default"] 0 ⟨[], []⟩ = pure [none, none] from rfl) ?_)
 refine wpAny_bind (wpAny_pure ?_)
 refine wpAny_bind (wpAny_pyIter_list hls ?_)
 refine wpAny_bind (wpAny_newList ?_ (Nat.zero_le _))
 rw [hname]
 refine wpAny_pure ⟨plainId_quiet PySem.F.plain_min_loop _, ?_⟩
 generalize hIo : ({ cls := .type "list_iterator", data := .fields #[.ref l, .int 0 0] } : Obj) = oI0
 have hS : (s.heap.push oI0).objs.size = s.heap.objs.size + 1 := size_push' ..
 have hlI : l ≠ s.heap.objs.size := Nat.ne_of_lt hll
 have hlS : l ≠ (s.heap.push oI0).objs.size := by rw [hS]; exact Nat.ne_of_lt (Nat.lt_succ_of_lt hll)
 have hIS : s.heap.objs.size ≠ (s.heap.push oI0).objs.size := by rw [hS]; exact Nat.ne_of_lt (Nat.lt_succ_self _)
 have gI : ((s.heap.push oI0).push (seqObj "list" #[] 0)).get? s.heap.objs.size = some oI0 := Heap.get?_push_of_some _ (Heap.get?_push_size _ (by rw [<- hIo]; rfl))
 have gS : ((s.heap.push oI0).push (seqObj "list" #[] 0)).get? (s.heap.push oI0).objs.size = some (seqObj "list" #[] 0) := Heap.get?_push_size _ rfl
 have fI : FpOk X pins H s.heap.objs.size := I.fpOk (Nat.le_refl _) (I.hok.fresh (Nat.le_refl _))
 have fS : FpOk X pins H (s.heap.push oI0).objs.size := I.fpOk (by rw [hS]; exact Nat.le_succ _) (I.hok.fresh (by rw [hS]; exact Nat.le_succ _))
 have I0 : Inv X pins σ H { s with heap := (s.heap.push oI0).push (seqObj "list" #[] 0), toks := s.toks } := I.turnedL (fp := []) (fun b o _ e => Heap.get?_push_of_some _ (Heap.get?_push_of_some _ e)) (fun b hb => by cases hb)
 generalize (s.heap.push oI0).objs.size = S at *
 generalize hI : s.heap.objs.size = J at *
 generalize (s.heap.push oI0).push (seqObj "list" #[] 0) = h0 at *
 have hit : h0.IsListIter J l 0 := ⟨_, gI, by rw [<- hIo], by rw [<- hIo]; rfl⟩
 obtain ⟨its', vr', pl', _⟩ := I0.list sq
 refine codeAny_builtin PySem.F.entry_min_loop ?_
 rw [Around.under_plainId PySem.F.plain_min_loop _]
 show wpAny _ X.A.in1 (seqItems? (.ref S) >>= _) _ _ _
 refine wpAny_bind (wpAny_seqItems gS rfl ?_)
 show wpAny _ X.A.in1 (tryCatch (pyNext (.ref J)) _ >>= _) _ _ _
 obtain ⟨x, hx, px⟩ := rs.get (i := 0) (d := d) rfl
 obtain ⟨v, hv, rx⟩ := vr'.get hx
 refine wpAny_bind (wpAny_tryCatch (wpAny_pyNext_list_item hit pl'.isList (by simpa using hv) fun h1 hit1 s1 => ?_))
 have I1 := I0.turnedL (h' := h1) (t' := s.toks) (fp := [J]) (fun b o hb e => s1.extBut b o (by simpa using hb) e) (fun b hb => by rw [List.mem_singleton.mp hb]; exact fI)
 have hS1 : h1.get? S = some (seqObj "list" #[] 0) := s1.extBut _ _ (Ne.symm hIS) gS
 refine wpAny_bind (wpAny_pure ?_)
 have s3 := Heap.SameBut.update h1 S (Obj.mapSeq fun _ => #[v, v])
 obtain ⟨c2, hc2⟩ : ∃ c2, (h1.update S (Obj.mapSeq fun _ => #[v, v])).get? S = some (seqObj "list" #[v, v] c2) := ⟨_, get?_update_seq hS1 fun _ => #[v, v]⟩
 show wpAny _ X.A.in1 (updateSeq S (fun _ => #[v, v]) >>= _) _ _ _
 refine wpAny_bind (wpAny_updateSeq hS1 rfl ?_)
 rw [hname]
 have I3 := I1.turnedL (h' := h1.update S (Obj.mapSeq fun _ => #[v, v])) (t' := s.toks) (fp := [S]) (fun b o hb e => (s3.2 b (by simpa using hb)).trans e) (fun b hb => by rw [List.mem_singleton.mp hb]; exact fS)
 refine wpAny_pure ⟨plainId_quiet PySem.F.plain_min_loop _, min_loop0 hc hu (ds := d :: ds) (dm := dm) hIS hlI hlS _ 0 H F H F _ x v d c2 _ rfl (by simp) I3 (.refl sf) sq rs (hit1.at fun o e => (s3.2 J hIS).trans e) hc2 fI fS rx px hm fun x v F' H' s' a b c d => ⟨x, H', a, b, q x F' H' c d⟩⟩
@[irreducible] def mminP (m : ML) : ME := fun ρ => match m ρ with | some (d :: ds) => minP ds d | _ => none
theorem mminP_ev {m : ML} {ρ : Ro} {d : D} {ds : List D} (h : m ρ = some (d :: ds)) : mminP m ρ = minP ds d := by
 unfold mminP; rw [h]
theorem pd_minP {p pos : Pos} {e : Expr} {m : ML} (hc : X.calm = true) (hu : X.A.units + 64 < cLine) (hg : Gl X "min") (hm : X.mg "min" = none) (ha : PB X e m) (hs : starEach (e :: []) X.env = (false, eval e X.env) :: starEach [] X.env := by rfl) (he : starEach [e] X.env = (false, eval e X.env) :: starEach [] X.env := by rfl) (hpl : (backTo pos (starEach [] X.env)).any (·.1) = false := by rfl) : PD X (.Call (.Name "min" p) [e] [] pos) (mminP m) :=
 (pe_callB (call_minP hc hu) hg hm PyProof.Rows.boot_min (pa_cons ha pa_nil hs) (by decide) (by decide) he hpl).imp fun σ H Q hpat => by
  obtain ⟨F0, H0, F, ρ, g, rl, e, q⟩ := hpat
  unfold mminP at e
  split at e
  ·rename_i d ds h1
   exact ⟨F0, H0, F, ρ, d :: ds, rl, h1, fun p xs F1 H1 x1 s1 r1 => ⟨p, xs, d, ds, g, F1, rfl, s1, x1.fh, r1, e, fun x F' H' x2 rx => q x F' H' (x1.trans x2) rx⟩⟩
  ·cases e
end
end
section
section
variable {X : Cx} {pins : List (Addr × Obj)} {σ : St}
end
end
end L2
namespace L2
open List
open PySem PySem.Spec PyProof.Rows PySem.Builtin PySem.Builtin.Str
section
section
variable {X : Cx} {a b c e o : Expr} {ma mb mo : ME} {pos : Pos}
theorem reps_strs {K : W.Frag} {F : Hp} : ∀ (l : List Str), Reps K F (l.map V.str) (l.map D.str)
 | [] => .nil
 | z :: l => .cons (.str z) (reps_strs l)
end
end
section
section
variable {X : Cx} {a b c e o : Expr} {ma mb mo : ME} {pos : Pos}
end
end
end L2
namespace L2
open List
open PySem PySem.Spec PyProof.Rows
section
section
variable {X : Cx} {a b c e o : Expr} {ma mb mo : ME} {pos : Pos} {st : Stmt}
end
end
section
section
variable {prog : Program} {w : World} {A : Around} {E : Value -> Shared -> Prop} {s : Shared} {l : Addr} {xs : Array (Int × Tok)}
end
section
variable {X : Cx} {a b c e o : Expr} {ma mb mo : ME} {pos : Pos} {st : Stmt}
end
section
variable {X : Cx} {a b c e : Expr} {na nb : MEm} {pos : Pos} {st : Stmt} {es : List Expr} {E : XK} {mf : MF} {m : MLm}
abbrev MBm := Ro -> Option (Bool × Ro)
end
end
section
section
variable {X : Cx} {a b c e : Expr} {na nb : MEm} {pos : Pos} {st : Stmt} {es : List Expr} {m : MLm}
end
section
variable {X : Cx} {pos : Pos}
end
end
section
section
variable {X : Cx} {e : Expr} {na : MEm} {pos : Pos} {st : Stmt} {es : List Expr} {m : ML} {mf : MG} {E : XK}
def NoL (K : W.Frag) : Prop := ∀ p o, List.lookup p K = some o -> o.cls ≠ .type "list"
def noLb : W.Frag -> Bool
 | [] => true
 | (_, o) :: r => (match o.cls with | .type c => c != "list" | _ => true) && noLb r
theorem NoL.of : ∀ {K : W.Frag}, noLb K = true -> NoL K
 | [], _ => fun p o e => by cases e
 | (a, o') :: r, h => fun p o e z => by
  have h : ((match o'.cls with | .type c => c != "list" | _ => true) && noLb r) = true := h
  rw [Bool.and_eq_true] at h
  rw [lookup_cons] at e
  split at e
  ·cases e
   rw [z] at h
   exact absurd h.1 (by decide)
  ·exact NoL.of h.2 p o e z
open Classical in
end
end
section
section
variable {X : Cx}
end
end
section
section
variable {X : Cx} {e : Expr} {pos : Pos}
@[irreducible] def many (m : ML) : ME := fun ρ => match m ρ with | some ds => (match intsD ds with | some ns => some (.bl (ns.any fun i => i != 0)) | none => none) | none => none
end
end
section
section
variable {X : Cx} {e : Expr} {ma : ME} {pos : Pos}
end
end
section
section
variable {X : Cx} {e : Expr} {ma : ME} {pos : Pos}
end
end
section
def IsRev (h : Heap) (a l : Addr) (k : Int) : Prop := ∃ o, h.get? a = some o /\ o.cls = .type "list_reverseiterator" /\ o.data = .fields #[.ref l, rawInt k]
section
variable {prog : Program} {w : World} {A : Around} {E : Value -> Shared -> Prop} {s : Shared}
theorem IsRev.ty {a l : Addr} {k : Int} (h : IsRev s.heap a l k) : s.TypeIs (.ref a) "list_reverseiterator" := by
 obtain ⟨o, e, c, d⟩ := h
 exact ⟨o, e, c⟩
end
section
variable {X : Cx}
end
end
section
section
variable {X : Cx} {a : Expr} {na : MEm} {pos : Pos} {ca : MBm}
end
end
section
section
variable {X : Cx} {a b : Expr} {m : ML} {pos : Pos}
end
end
end L2
namespace L2
open List
open PySem PySem.Spec PyProof.Rows PySem.W PySem.Builtin PySem.Builtin.ObjectAttr PySem.Builtin.Getset_descriptor
section
structure XCls (K : W.Frag) (C : Addr) : Prop where
 ga : findIn K (.ref C) "__getattribute__" = some (some (.builtin "BaseException.__getattribute__"))
 nog : findIn K (.ref C) "__getattr__" = some none
 cl : findIn K (.ref C) "__class__" = some (some (.builtin "object.__class__"))
 ob : mroIn K C (.type "object") = some true
 be : mroIn K C (.type "BaseException") = some true
section
variable {prog : Program} {w : World} {A : Around} {E : Value -> Shared -> Prop} {K : W.Frag} {x C : Addr} {ox : Obj} {h : Heap} {g : Array GenState} {d : Drawn} {t : Nat} {os : OsState}
end
end
end L2
namespace L2
open List
open PySem PySem.Spec PyProof.Rows
section
structure Flown (P : Program) (w : World) (outer : List Env) (H : Hp) (s : Shared) (H' : Hp) (B h' : Heap) : Prop where
 un : Un (frs outer) [] H H' s.heap h'
 ok : HOk P w H' h'
 st : B.StaysIn h'
 trk : ∀ b o, H' b = some o -> ∃ ob, B.get? b = some ob
 old : ∀ b o, s.heap.get? b = some o -> b ∉ frs outer -> ∃ ob, B.get? b = some ob
section
variable {P : Program} {w : World} {outer : List Env} {H H' : Hp} {s : Shared} {B h1 h2 base : Heap}
theorem Flown.on (f : Flown P w outer H s H' B h1) (fr : h1.FunFrames base outer) (st : B.StaysIn h2) (up : h1.UpToSlots h2) : Flown P w outer H s H' B h2 := by
 have same : ∀ b o, h1.get? b = some o -> (∃ ob, B.get? b = some ob) -> h2.get? b = some o := fun b o e hpat => by
  obtain ⟨ob, eb⟩ := hpat
  have := f.st b ob eb
  rw [e] at this; cases this
  exact st b o eb
 have fslot : ∀ b o, b ∈ frs outer -> h1.get? b = some o -> ∃ sl, h2.get? b = some { o with slots := sl } := fun b o hb e => by
  obtain ⟨_, o', e', hd⟩ := fr.mem hb
  rw [e] at e'; cases e'
  exact up b o e hd
 refine ⟨⟨fun b o e n hb hx => same b o (f.un.keep b o e n hb hx) (f.old b o e hb), fun b o e n hb hx => ?_, f.un.free, fun b o e hx => ?_, f.un.tups, f.un.frzs, f.un.tbls⟩, fun b u e => ?_, st, f.trk, f.old⟩
 ·obtain ⟨sl, e1⟩ := f.un.slot b o e n hb hx
  obtain ⟨sl2, e2⟩ := fslot b _ hb e1
  exact ⟨sl2, e2⟩
 ·by_cases hb : b ∈ frs outer
  ·obtain ⟨o1, e1⟩ := f.un.there b o e hx
   obtain ⟨sl2, e2⟩ := fslot b _ hb e1
   exact ⟨_, e2⟩
  ·obtain ⟨ob, eb⟩ := f.old b o e hb
   exact ⟨ob, st b ob eb⟩
 ·refine (f.ok b u e).stay (fun c v hc q => same c v q ?_) (fun _ q => q) fun _ _ q => q
  rcases hc with z | z
  ·rw [z]; exact f.trk b u e
  ·exact f.trk c _ z
end
structure Top (X : Cx) : Prop where
 stk : X.stack = X.env :: X.outer
 frm : X.env.frame = some X.env.locals
 ex : X.ex = []
section
variable {X : Cx} {pins : List (Addr × Obj)} {σ : St} {H H' : Hp} {s : Shared} {B h1 : Heap}
theorem Flown.inv {s' : Shared} (I : Inv X pins σ H s) (f : Flown X.prog X.w X.stack H s H' B s'.heap) (os : s'.os = s.os) (bare : AllBare s'.gens) : Inv X pins σ H' s' :=
 I.call' (ch := []) os f.un f.ok bare fun b z => absurd z (by simp)
theorem Flown.out {s' : Shared} (T : Top X) (I : Inv X pins σ H s) (f : Flown X.prog X.w X.stack H s H' B s'.heap) (os : s'.os = s.os) (bare : AllBare s'.gens) : Flown X.prog X.w X.outer X.H₀ X.s₀ H' B s'.heap := by
 have I' := f.inv I os bare
 refine ⟨by have := I'.base; rw [T.ex] at this; exact this, f.ok, f.st, f.trk, fun b o e hb => ?_⟩
 obtain ⟨o1, e1⟩ := I.base.there b o e (by rw [T.ex]; simp)
 refine f.old b o1 e1 fun z => ?_
 rcases List.mem_cons.mp (I.stkSub b z) with z | z
 ·exact absurd (Nat.lt_of_lt_of_le (Heap.lt_size e) I.ok.above) (by rw [z]; exact Nat.lt_irrefl _)
 ·exact hb z
end
theorem ObjOk.there {P : Program} {w : World} {H : Hp} {h : Heap} {a : Addr} {o : HO} (x : ObjOk P w H h a o) : ∃ ob, h.get? a = some ob := by
 cases o with
 | lst xs => obtain ⟨_, _, _, _, e⟩ := x; exact ⟨_, e⟩
 | tup xs => obtain ⟨_, _, _, ⟨_, e, _⟩⟩ := x; exact ⟨_, e⟩
 | dK kvs => obtain ⟨_, _, _, _, o, _, _, e, _⟩ := x; exact ⟨_, e⟩
 | dT kvs => obtain ⟨_, _, _, _, o, _, _, e, _⟩ := x; exact ⟨_, e⟩
 | set S n => obtain ⟨o, _, _, _, e, _⟩ := x; exact ⟨_, e⟩
 | ins C dx fs => obtain ⟨_, _, _, e, _⟩ := x; exact ⟨_, e⟩
 | own y => exact x
 | xd fs => obtain ⟨_, ⟨_, _, _, e, _⟩, _⟩ := x; exact ⟨_, e⟩
 | rng lo hi => obtain ⟨_, _, _, e⟩ := x; exact ⟨_, e⟩
 | frz ob u => exact ⟨_, x.1⟩
 | tbl ps => exact ⟨_, show h.get? a = some _ from x⟩
 | met f y => exact ⟨_, show h.get? a = some _ from x⟩
 | ext φ => exact x.2.1
def XC (K : W.Frag) (c : Str) (C : Addr) : Prop := W.nsIn K mainGlobals c = some (some (.ref C)) /\ xName K C = some c
def RXp (X : Cx) (pins : List (Addr × Obj)) (W : Str -> St -> Hp -> Prop) (ev : Value) (s3 : Shared) : Prop :=
 ∃ (e C : Addr) (a0 : Value) (σ' : St) (H1 : Hp) (s1 : Shared) (H' : Hp) (B : Heap) (c : Str), ev = .ref e /\ Inv X pins σ' H1 s1 /\ s3.os = s1.os /\ AllBare s3.gens /\ Flown X.prog X.w X.stack H1 s1 H' B s3.heap /\
  Heap.FlyingW B X.stack e (.ref C) a0 s3.heap /\ XC X.K c C /\ W c σ' H'
def RX (X : Cx) (pins : List (Addr × Obj)) (W : Str -> St -> Hp -> Prop) (ev : Value) (s' : Shared) : Prop :=
 wpAny (model X.prog X.w) X.A (noteFrame ev X.env) (fun _ s2 => wpAny (model X.prog X.w) X.A (setFlight ev none) (fun _ s3 => RXp X pins W ev s3) noE s2) noE s'
section
variable {X : Cx} {pins : List (Addr × Obj)} {σ : St} {H : Hp} {s : Shared} {W : Str -> St -> Hp -> Prop}
end
abbrev Cx.bear (X : Cx) (pins : List (Addr × Obj)) (E : Value -> Shared -> Prop) : Cx := { X with pn := X.pn ++ pins, xe := E }
section
variable {X : Cx} {pins pins' : List (Addr × Obj)} {σ : St} {H : Hp} {s : Shared} {E : Value -> Shared -> Prop}
theorem Cx.Ok.bear (ok : X.Ok) : (X.bear pins E).Ok := ⟨ok.mod, ok.kind, ok.glob, ok.blt, ok.above, ok.inj, ok.has, ok.cab, ok.hd, ok.frames, ok.stk, ok.exf, ok.bs, ok.bsz, ok.noex, ok.exfs, ok.funs, ok.frf⟩
theorem Cx.Ok.unbear (ok : (X.bear pins E).Ok) : X.Ok := ⟨ok.mod, ok.kind, ok.glob, ok.blt, ok.above, ok.inj, ok.has, ok.cab, ok.hd, ok.frames, ok.stk, ok.exf, ok.bs, ok.bsz, ok.noex, ok.exfs, ok.funs, ok.frf⟩
theorem Inv.bear (I : Inv X (pins ++ pins') σ H s) : Inv (X.bear pins E) pins' σ H s := ⟨I.ok.bear, I.os, I.bare, I.base, I.loc, I.cell, I.free, I.freeC, fun p hp => I.pin p (by rw [<- append_assoc]; exact hp), I.hok, I.len⟩
theorem Inv.unbear (I : Inv (X.bear pins E) pins' σ H s) : Inv X (pins ++ pins') σ H s := ⟨I.ok.unbear, I.os, I.bare, I.base, I.loc, I.cell, I.free, I.freeC, fun p hp => I.pin p (by rw [<- append_assoc] at hp; exact hp), I.hok, I.len⟩
theorem SP.bear {D : Ends} {f : Flow} {s' : Shared} (h : SP X (pins ++ pins') D f s') : SP (X.bear pins E) pins' D f s' := by
 cases f with
 | next => obtain ⟨σ', H', I, q⟩ := h; exact ⟨σ', H', I.bear, q⟩
 | brk => obtain ⟨σ', H', I, q⟩ := h; exact ⟨σ', H', I.bear, q⟩
 | cont => obtain ⟨σ', H', I, q⟩ := h; exact ⟨σ', H', I.bear, q⟩
 | ret u => obtain ⟨v, σ', H', I, r, q⟩ := h; exact ⟨v, σ', H', I.bear, r, q⟩
theorem SP.unbear {D : Ends} {f : Flow} {s' : Shared} (h : SP (X.bear pins E) pins' D f s') : SP X (pins ++ pins') D f s' := by
 cases f with
 | next => obtain ⟨σ', H', I, q⟩ := h; exact ⟨σ', H', I.unbear, q⟩
 | brk => obtain ⟨σ', H', I, q⟩ := h; exact ⟨σ', H', I.unbear, q⟩
 | cont => obtain ⟨σ', H', I, q⟩ := h; exact ⟨σ', H', I.unbear, q⟩
 | ret u => obtain ⟨v, σ', H', I, r, q⟩ := h; exact ⟨v, σ', H', I.unbear, r, q⟩
variable (nx : X.xe = noE)
include nx
theorem PE.bear {e : Expr} {t : TE} (h : PE X e t) : PE (X.bear pins E) e t := fun pins' s σ H Q I hw =>
 wpAny_mono (h _ s σ H Q I.unbear hw) (fun _ _ ⟨v, H', I', r, q⟩ => ⟨v, H', I'.bear, r, q⟩) fun _ _ z => by rw [nx] at z; exact z.elim
theorem PT.bear {e : Expr} {t : TT} (h : PT X e t) : PT (X.bear pins E) e t := fun pins' s σ H Q I hw =>
 wpAny_mono (h _ s σ H Q I.unbear hw) (fun _ _ ⟨H', I', q⟩ => ⟨H', I'.bear, q⟩) fun _ _ z => by rw [nx] at z; exact z.elim
theorem PA.bear {es : List Expr} {t : TA} (h : PA X es t) : PA (X.bear pins E) es t := fun pos pins' s σ H Q I hw =>
 wpAny_mono (h pos _ s σ H Q I.unbear hw) (fun _ _ ⟨v, H', I', r, q⟩ => ⟨v, H', I'.bear, r, q⟩) fun _ _ z => by rw [nx] at z; exact z.elim
theorem PS.bear {st : Stmt} {t : TS} (h : PS X st t) : PS (X.bear pins E) st t := fun pins' s σ H D I hw =>
 wpAny_mono (h _ s σ H D I.unbear hw) (fun _ _ q => q.bear) fun _ _ z => by rw [nx] at z; exact z.elim
theorem PSs.bear {st : List Stmt} {t : TS} (h : PSs X st t) : PSs (X.bear pins E) st t := fun pins' s σ H D I hw =>
 wpAny_mono (h _ s σ H D I.unbear hw) (fun _ _ q => q.bear) fun _ _ z => by rw [nx] at z; exact z.elim
end
end
section
abbrev WX := Str -> St -> Hp -> Prop
abbrev Cx.rx (X : Cx) (pins : List (Addr × Obj)) (W : WX) : Cx := X.bear pins (RX X pins W)
section
variable {X : Cx} {st : Stmt} {rest : List Stmt} {e c : Expr} {pos : Pos}
theorem PS.or {t u : TS} (h : PS X st t) (k : PS X st u) : PS X st fun D σ H => t D σ H \/ u D σ H := fun pins s σ H D I q => q.elim (fun z => h pins s σ H D I z) fun z => k pins s σ H D I z
theorem PSs.or {t u : TS} (h : PSs X rest t) (k : PSs X rest u) : PSs X rest fun D σ H => t D σ H \/ u D σ H := fun pins s σ H D I q => q.elim (fun z => h pins s σ H D I z) fun z => k pins s σ H D I z
end
end
section
section
variable {X : Cx} {pins : List (Addr × Obj)} {E : Value -> Shared -> Prop} (nx : X.xe = noE)
include nx
theorem PG.bear {tg : Expr} {t : TG} (h : PG X tg t) : PG (X.bear pins E) tg t := fun pins' s σ H v u Q I r hw =>
 wpAny_mono (h _ s σ H v u Q I.unbear r hw) (fun _ _ ⟨σ', H', I', q⟩ => ⟨σ', H', I'.bear, q⟩) fun _ _ z => by rw [nx] at z; exact z.elim
theorem PI.bear {tg it : Expr} {t : TI} (h : PI X tg it t) : PI (X.bear pins E) tg it t := fun pins' s σ H R I hw =>
 wpAny_mono (h _ s σ H R I.unbear hw) (fun v s1 h1 => wpAny_mono h1 (fun itv s2 ⟨it, fp, tn, J, H', e, I', T, st, f, q⟩ => ⟨it, fp, tn, J, H', e, I'.bear, T, st, fun b hb => by
  obtain ⟨f0, f1, f2, f3, f4, f5⟩ := f b hb
  exact ⟨f0, f1, f2, f3, f4, fun p hp => f5 p (by rw [<- append_assoc]; exact hp)⟩, q⟩) fun _ _ z => by rw [nx] at z; exact z.elim) fun _ _ z => by rw [nx] at z; exact z.elim
end
section
variable {X : Cx} {e c : Expr} {pos : Pos} {st : Stmt} {rest : List Stmt}
end
end
section
section
variable {X : Cx} {pins : List (Addr × Obj)} {σ : St} {H : Hp} {s : Shared} {a C : Addr}
end
theorem Rl.drop {K : W.Frag} {F0 H0 F H : Hp} {σ : St} {ρ : Ro} (r : Rl K F0 H0 F H σ ρ) (i : Nat) : Rl K F0 H0 F H (σ.set i none) (ρ.set i none) := by
 have get : ∀ (j : Nat) x, (ρ.set i none)[j]? = some (some x) -> i ≠ j /\ ρ[j]? = some (some x) := fun j x e => by
  by_cases hj : i = j
  ·subst hj
   have hl : i < ρ.length := by
    rcases Nat.lt_or_ge i ρ.length with z | z
    ·exact z
    ·rw [getElem?_eq_none (by simpa using z)] at e; cases e
   rw [getElem?_set_self hl] at e; cases e
  ·rw [getElem?_set_ne hj] at e; exact ⟨hj, e⟩
 have gs : ∀ (j : Nat) x, (σ.set i none)[j]? = some (some x) -> σ[j]? = some (some x) := fun j x e => by
  by_cases hj : i = j
  ·subst hj
   have hl : i < σ.length := by
    rcases Nat.lt_or_ge i σ.length with z | z
    ·exact z
    ·rw [getElem?_eq_none (by simpa using z)] at e; cases e
   rw [getElem?_set_self hl] at e; cases e
  ·rw [getElem?_set_ne hj] at e; exact e
 refine ⟨r.ext, by simp [r.len], fun j d e => ?_, fun j ds e => ?_, fun j k p ds es hjk e1 e2 e3 e4 => r.inj j k p ds es hjk (get j _ e1).2 (get k _ e2).2 (gs j _ e3) (gs k _ e4), fun j p ds e => ?_, fun j k p ds es e1 e2 e3 => r.obn j k p ds es (get j _ e1).2 (get k _ e2).2 (gs k _ e3), fun j k p q ds es e1 e2 => r.ob1 j k p q ds es (get j _ e1).2 (get k _ e2).2⟩
 ·obtain ⟨n, e⟩ := get j _ e
  rw [getElem?_set_ne n]; exact r.sh j d e
 ·obtain ⟨n, e⟩ := get j _ e
  rw [getElem?_set_ne n]; exact r.own j ds e
 ·obtain ⟨n, e⟩ := get j _ e
  rw [getElem?_set_ne n]; exact r.ob j p ds e
section
variable {X : Cx} {pos np hpos : Pos}
end
end
section
structure RoomN (k : Nat) (A : Around) : Prop where
 dp : A.depth + 3 * k + 5 < recursionLimit
 un : A.units + 16 * k + 200 < cLine
theorem Room.n {k : Nat} {A : Around} (r : Room k A) : RoomN k A := ⟨r.dp, r.un⟩
theorem RoomN.mono {j k : Nat} {A : Around} (r : RoomN k A) (h : j <= k) : RoomN j A := ⟨by have := r.dp; omega, by have := r.un; omega⟩
theorem RoomN.deeper {k : Nat} {A : Around} (r : RoomN (k + 1) A) (env : Env) : RoomN k (A.deeper env) :=
 ⟨by have := r.dp; show A.depth + 1 + 3 * k + 5 < _; omega, by have := r.un; show A.units + 3 + 16 * k + 200 < _; omega⟩
theorem RoomN.units {k : Nat} {A : Around} (r : RoomN k A) : A.units + 64 < cLine := by have := r.un; omega
structure FnOkN (P : Program) (w : World) (K : W.Frag) (mg : Str -> Option Value) (base : Heap) (CX : CXT) (k : Nat) (f : Addr) (fd : FuncData) (ps : List Str) (sp : Sp) : Prop where
 len : ∀ vs H Q E, sp vs H Q E -> vs.length = ps.length
 run : ∀ (A : Around) (outer : List Env) (s : Shared) (H : Hp) (args : Args) (us : List Value) (vs : List V) (Q : VK) (E : XK), RoomN k A -> Env0 P w K mg base A outer s H -> BindsTo s fd args (ps.zip us) -> Vals vs us -> sp vs H Q E ->
  codeAny (model P w) A (.call (.ref f) args) (CR CX outer P w H s Q E) s
theorem FnOkN.mono {P : Program} {w : World} {K : W.Frag} {mg : Str -> Option Value} {base : Heap} {CX : CXT} {j k : Nat} {f : Addr} {fd : FuncData} {ps : List Str} {sp : Sp} (F : FnOkN P w K mg base CX j f fd ps sp) (h : j <= k) : FnOkN P w K mg base CX k f fd ps sp :=
 ⟨F.len, fun A outer s H args us vs Q E hr => F.run A outer s H args us vs Q E (hr.mono h)⟩
section
variable {X : Cx} {CX : CXT} {k : Nat} {f : Addr} {fd : FuncData} {ps : List Str} {sp : Sp} {dvs : List V} {ds : List Value} {E : XK} {x : Str} {p pos : Pos} {e : Expr} {es : List Expr} {t : TA}
end
section
variable {X : Cx} {a : Expr} {ma : ME} {pos : Pos}
end
theorem XC.eq {K : W.Frag} {c : Str} {C x : Addr} (h : XC K c C) (e : W.nsIn K mainGlobals c = some (some (.ref x))) : C = x := by
 have := h.1.symm.trans e
 cases this; rfl
end
section
section
variable {X : Cx} {a : Expr} {ma : ME} {pos : Pos}
open PySem.SeqAt in
end
end
section
section
variable {X : Cx} {pos : Pos}
end
end
section
section
variable {X : Cx} {v : Expr} {mv : ME} {pos : Pos}
end
end
section
def insI (a : Int) : List Int -> List Int
 | [] => [a]
 | b :: r => if a <= b then a :: b :: r else b :: insI a r
def isort : List Int -> List Int
 | [] => []
 | a :: r => insI a (isort r)
theorem insI_perm (a : Int) : ∀ r, (insI a r).Perm (a :: r)
 | [] => .refl _
 | b :: r => by
  unfold insI
  split
  ·exact .refl _
  ·exact ((insI_perm a r).cons b).trans (.swap a b r)
theorem isort_perm : ∀ ns, (isort ns).Perm ns
 | [] => .refl _
 | a :: r => (insI_perm a _).trans ((isort_perm r).cons a)
theorem insI_sorted (a : Int) : ∀ r, r.Pairwise (· <= ·) -> (insI a r).Pairwise (· <= ·)
 | [], _ => pairwise_singleton ..
 | b :: r, h => by
  have h' := List.pairwise_cons.mp h
  unfold insI
  split
  ·rename_i hab
   refine List.pairwise_cons.mpr ⟨fun x hx => ?_, h⟩
   rcases List.mem_cons.mp hx with e | hx
   ·rw [e]; exact hab
   ·exact Int.le_trans hab (h'.1 x hx)
  ·rename_i hab
   refine List.pairwise_cons.mpr ⟨fun x hx => ?_, insI_sorted a r h'.2⟩
   rcases List.mem_cons.mp ((insI_perm a r).mem_iff.mp hx) with e | hx
   ·rw [e]; omega
   ·exact h'.1 x hx
theorem isort_sorted : ∀ ns, (isort ns).Pairwise (· <= ·)
 | [] => .nil
 | a :: r => insI_sorted a _ (isort_sorted r)
theorem sorted_uniq : ∀ {a b : List Int}, a.Perm b -> a.Pairwise (· <= ·) -> b.Pairwise (· <= ·) -> a = b
 | [], b, p, _, _ => (List.Perm.nil_eq p)
 | x :: a, [], p, _, _ => absurd p.length_eq (by simp)
 | x :: a, y :: b, p, ha, hb => by
  have h1 := List.pairwise_cons.mp ha
  have h2 := List.pairwise_cons.mp hb
  have e : x = y := by
   have m1 : x ∈ y :: b := p.mem_iff.mp mem_cons_self
   have m2 : y ∈ x :: a := p.mem_iff.mpr mem_cons_self
   rcases List.mem_cons.mp m1 with e | m1
   ·exact e
   ·rcases List.mem_cons.mp m2 with e | m2
    ·exact e.symm
    ·have := h2.1 x m1
     have := h1.1 y m2
     omega
  subst e
  rw [sorted_uniq ((perm_cons x).mp p) h1.2 h2.2]
theorem isort_length (ns : List Int) : (isort ns).length = ns.length := (isort_perm ns).length_eq
theorem ints_vals : ∀ {ns : List Int} {its : List Value}, Vals (ns.map V.int) its -> IntsAre its ns
 | [], _, .nil => .nil
 | n :: ns, _, .cons r t => by
  obtain ⟨k, rfl⟩ := r
  exact .cons n k (ints_vals t)
theorem vals_intsA : ∀ {ns : List Int} {its : List Value}, IntsAre its ns -> Vals (ns.map V.int) its
 | [], _, .nil => .nil
 | n :: ns, _, .cons _ k t => .cons ⟨k, rfl⟩ (vals_intsA t)
section
variable {X : Cx} {e : Expr} {pos : Pos}
end
end
section
section
variable {X : Cx} {pins : List (Addr × Obj)} {σ : St}
end
end
section
inductive RPs (K : W.Frag) (F H : Hp) : List Addr -> List (List D) -> Prop
 | nil : RPs K F H [] []
 | cons {q : Addr} {xs : List V} {ds : List D} {qs : List Addr} {dss : List (List D)} : H q = some (.lst xs) -> Reps K F xs ds -> RPs K F H qs dss -> RPs K F H (q :: qs) (ds :: dss)
section
variable {K : W.Frag} {F H F' H' : Hp}
theorem RPs.mono (e : Same F F') (k : Same H H') : ∀ {qs : List Addr} {dss : List (List D)}, RPs K F H qs dss -> RPs K F' H' qs dss
 | _, _, .nil => .nil
 | _, _, .cons h r t => .cons (k _ _ h) (r.mono e) (RPs.mono e k t)
theorem RPs.keep (e : Same F F') : ∀ {qs : List Addr} {dss : List (List D)}, (∀ q ∈ qs, ∀ o, H q = some o -> H' q = some o) -> RPs K F H qs dss -> RPs K F' H' qs dss
 | _, _, _, .nil => .nil
 | _, _, k, .cons h r t => .cons (k _ mem_cons_self _ h) (r.mono e) (RPs.keep e (fun q hq => k q (mem_cons_of_mem _ hq)) t)
theorem RPs.length : ∀ {qs : List Addr} {dss : List (List D)}, RPs K F H qs dss -> qs.length = dss.length
 | _, _, .nil => rfl
 | _, _, .cons _ _ t => congrArg (· + 1) (RPs.length t)
theorem RPs.get : ∀ {qs : List Addr} {dss : List (List D)} {i : Nat} {ds : List D}, RPs K F H qs dss -> dss[i]? = some ds -> ∃ q xs, qs[i]? = some q /\ H q = some (.lst xs) /\ Reps K F xs ds
 | _, _, _, _, .nil, e => by simp at e
 | _, _, 0, _, .cons a b _, e => by simp at e; subst e; exact ⟨_, _, rfl, a, b⟩
 | _, _, i + 1, ds, .cons _ _ t, e => by
  obtain ⟨q, xs, h1, h2⟩ := RPs.get (i := i) (ds := ds) t (by simpa using e)
  exact ⟨q, xs, by simpa using h1, h2⟩
theorem RPs.some : ∀ {qs : List Addr} {dss : List (List D)}, RPs K F H qs dss -> ∀ q ∈ qs, ∃ o, H q = some o
 | _, _, .cons a _ t, q, hq => by
  rcases List.mem_cons.mp hq with e | hq
  ·rw [e]; exact ⟨_, a⟩
  ·exact RPs.some t q hq
end
structure Pots (K : W.Frag) (H F' H' : Hp) (p : Addr) (qs : List Addr) (dss : List (List D)) : Prop where
 hp : H p = none
 fp : F' p = none
 at' : H' p = some (.lst (qs.map V.ref))
 new : ∀ q ∈ qs, H q = none /\ F' q = none
 nd : (p :: qs).Nodup
 rep : RPs K F' H' qs dss
theorem Ext.stays {F H F' H' : Hp} {p : Addr} {o : HO} (x : Ext F H F' H') (hF : F p = none) (hH : H p = some o) : F' p = none := by
 cases q : F' p with
 | none => rfl
 | some u => have := x.new p hF (by rw [q]; simp); rw [this] at hH; cases hH
section
variable {X : Cx} {a b c e : Expr} {pos : Pos}
end
end
section
section
variable {K : W.Frag} {F0 H0 H0' F H : Hp} {σ : St} {ρ : Ro}
end
section
variable {X : Cx} {a b c e : Expr} {pos : Pos} {st : Stmt}
variable {E : XK} {es : List Expr} {m : ML}
end
end
section
section
variable {K : W.Frag} {F0 H0 F H : Hp} {σ : St} {ρ : Ro}
end
end
section
section
variable {X : Cx} {a b : Expr} {ma mb : ME} {pos : Pos}
end
section
variable {X : Cx} {a b : Expr}
open PySem.SeqAt in
end
end
section
section
variable {X : Cx} {a b c e o : Expr} {ma mb mo : ME} {pos : Pos} {st : Stmt}
end
open Classical in
section
variable {X : Cx} {pos : Pos}
end
end
section
section
variable {X : Cx} {st : Stmt}
end
end
section
inductive Fl where
 | v (d : D) | l (ds : List D)
inductive Cell where
 | ins (c : Str) (ns : List Str) (fs : List Fl)
 | row (fs : List Fl)
 | tb (P : Addr) (mw : Str) (pos : Pos) (q : Str)
def CodeAt (c : Addr) (q : Str) : Heap -> Prop := fun h => h.CodeRec (.ref c) q
structure CodeT (K : W.Frag) (cdv : Value) (P : Addr) : Prop where
 hd : ∃ c, cdv = .ref c /\ ∀ h : Heap, K.In h -> W.CodeHd h c P
 ne : mainGlobals ≠ P
def TabF (K : W.Frag) (mw : Str) (P : Addr) : Prop := ∃ f oc od fd sl, W.nsIn K mainGlobals mw = some (some (.ref f)) /\ K.lookup f = some ⟨oc, od, .func fd, sl⟩ /\ CodeT K fd.code P
abbrev Bx := List (Addr × Cell)
inductive FlR (K : W.Frag) (F B : Hp) : List Addr -> List V -> List Fl -> Prop
 | nil : FlR K F B [] [] []
 | v {fp : List Addr} {x : V} {d : D} {xs : List V} {fs : List Fl} : Rep K F x d -> FlR K F B fp xs fs -> FlR K F B fp (x :: xs) (.v d :: fs)
 | l {fp : List Addr} {q : Addr} {ys : List V} {ds : List D} {xs : List V} {fs : List Fl} : B q = some (.lst ys) -> Reps K F ys ds -> FlR K F B fp xs fs -> FlR K F B (q :: fp) (.ref q :: xs) (.l ds :: fs)
inductive CellR (K : W.Frag) (F B : Hp) : List Addr -> Addr -> Cell -> Prop
 | ins {fp : List Addr} {p dx C : Addr} {c : Str} {ns : List Str} {xs : List V} {fs : List Fl} : W.nsIn K mainGlobals c = some (some (.ref C)) -> ns.length = xs.length -> B p = some (.ins C dx (ns.zip xs)) -> B dx = some (.own p) -> FlR K F B fp xs fs ->
   CellR K F B (p :: dx :: fp) p (.ins c ns fs)
 | row {fp : List Addr} {p : Addr} {xs : List V} {fs : List Fl} : B p = some (.lst xs) -> FlR K F B fp xs fs -> CellR K F B (p :: fp) p (.row fs)
 | tb {P : Addr} {mw : Str} {pos : Pos} {q : Str} {ps : Array Value} : TabF K mw P -> B P = some (.tbl ps) -> TriplesOk ps.toList -> (codeAmong pos ps.toList = none \/ ∃ c, codeAmong pos ps.toList = some (.ref c) /\ F c = some (.ext (CodeAt c q))) -> CellR K F B [P] P (.tb P mw pos q)
inductive BxR (K : W.Frag) (F B : Hp) : List Addr -> Bx -> Prop
 | nil : BxR K F B [] []
 | cons {fp fq : List Addr} {p : Addr} {c : Cell} {β : Bx} : CellR K F B fp p c -> BxR K F B fq β -> BxR K F B (fp ++ fq) ((p, c) :: β)
section
variable {K : W.Frag} {F F' B B' : Hp}
theorem FlR.mono (e : Same F F') {fp : List Addr} {xs : List V} {fs : List Fl} (h : FlR K F B fp xs fs) (k : ∀ a ∈ fp, B' a = B a) : FlR K F' B' fp xs fs := by
 induction h with
 | nil => exact .nil
 | v r _ ih => exact .v (r.mono e) (ih k)
 | l b r _ ih => exact .l (by rw [k _ (by simp)]; exact b) (r.mono e) (ih fun a ha => k a (mem_cons_of_mem _ ha))
theorem CellR.mono (e : Same F F') {fp : List Addr} {p : Addr} {c : Cell} (h : CellR K F B fp p c) (k : ∀ a ∈ fp, B' a = B a) : CellR K F' B' fp p c := by
 cases h with
 | ins a l b d r => exact .ins a l (by rw [k _ (by simp)]; exact b) (by rw [k _ (by simp)]; exact d) (r.mono e fun a ha => k a (by simp [ha]))
 | row b r => exact .row (by rw [k _ (by simp)]; exact b) (r.mono e fun a ha => k a (by simp [ha]))
 | tb a b t h => exact .tb a (by rw [k _ (by simp)]; exact b) t (h.imp id fun ⟨c, h1, h2⟩ => ⟨c, h1, e _ _ h2⟩)
theorem BxR.mono (e : Same F F') {fp : List Addr} {β : Bx} (h : BxR K F B fp β) (k : ∀ a ∈ fp, B' a = B a) : BxR K F' B' fp β := by
 induction h with
 | nil => exact .nil
 | cons c _ ih => exact .cons (c.mono e fun a ha => k a (by simp [ha])) (ih fun a ha => k a (by simp [ha]))
theorem FlR.mem {fp : List Addr} {xs : List V} {fs : List Fl} (h : FlR K F B fp xs fs) : ∀ a ∈ fp, B a ≠ none := by
 induction h with
 | nil => intro a ha; cases ha
 | v _ _ ih => exact ih
 | l b _ _ ih =>
  intro a ha
  rcases List.mem_cons.mp ha with rfl | ha
  ·rw [b]; simp
  ·exact ih a ha
theorem CellR.mem {fp : List Addr} {p : Addr} {c : Cell} (h : CellR K F B fp p c) : ∀ a ∈ fp, B a ≠ none := by
 intro a ha
 cases h with
 | ins _ _ b d r =>
  rcases List.mem_cons.mp ha with rfl | ha
  ·rw [b]; simp
  ·rcases List.mem_cons.mp ha with rfl | ha
   ·rw [d]; simp
   ·exact r.mem a ha
 | row b r =>
  rcases List.mem_cons.mp ha with rfl | ha
  ·rw [b]; simp
  ·exact r.mem a ha
 | tb _ b _ _ => rw [List.mem_singleton.mp ha, b]; simp
theorem BxR.mem {fp : List Addr} {β : Bx} (h : BxR K F B fp β) : ∀ a ∈ fp, B a ≠ none := by
 induction h with
 | nil => intro a ha; cases ha
 | cons c _ ih =>
  intro a ha
  rcases List.mem_append.mp ha with ha | ha
  ·exact c.mem a ha
  ·exact ih a ha
end
def jn (H0 B : Hp) : Hp := fun a => match B a with | some o => some o | none => H0 a
theorem jn_some {H0 B : Hp} {a : Addr} {o : HO} (h : B a = some o) : jn H0 B a = some o := by unfold jn; rw [h]
theorem jn_none {H0 B : Hp} {a : Addr} (h : B a = none) : jn H0 B a = H0 a := by unfold jn; rw [h]
theorem jn_free {H0 B : Hp} {a : Addr} (h : jn H0 B a = none) : B a = none /\ H0 a = none := by
 cases b : B a with
 | none => rw [jn_none b] at h; exact ⟨rfl, h⟩
 | some o => rw [jn_some b] at h; cases h
structure BxOk (K : W.Frag) (F0 H0 F B : Hp) (fp : List Addr) (β : Bx) : Prop where
 out : ∀ a, B a ≠ none -> H0 a = none /\ F0 a = none
 bx : BxR K F B fp β
 nd : fp.Nodup
 plain : ∀ a o u, B a ≠ some (.frz o u)
theorem BxOk.mono {K : W.Frag} {F0 H0 F F' B : Hp} {fp : List Addr} {β : Bx} (h : BxOk K F0 H0 F B fp β) (e : Same F F') : BxOk K F0 H0 F' B fp β := ⟨h.out, h.bx.mono e fun _ _ => rfl, h.nd, h.plain⟩
def RlW (K : W.Frag) (F0 H0 F H : Hp) (σ : St) (ρ : Ro) (β : Bx) : Prop := ∃ B fp, Rl K F0 (jn H0 B) F H σ ρ /\ BxOk K F0 H0 F B fp β
abbrev MW := Ro -> Bx -> Option (Out × Bx)
def okW (K : W.Frag) (F0 H0 Fb : Hp) (Dn : Ends) : Out -> Bx -> Prop
 | .nx ρ, β => ∀ F H σ, RlW K F0 H0 F H σ ρ β -> Same Fb F -> Dn.nx σ H
 | .bk ρ, β => ∀ F H σ, RlW K F0 H0 F H σ ρ β -> Same Fb F -> Dn.bk σ H
 | .ct ρ, β => ∀ F H σ, RlW K F0 H0 F H σ ρ β -> Same Fb F -> Dn.ct σ H
 | .rt d, β => ∀ v F H B fp, Ext F0 (jn H0 B) F H -> BxOk K F0 H0 F B fp β -> Rep K F v d -> Dn.rt v H
 | .rf ds, β => ∀ p xs F H B fp, Ext F0 (jn H0 B) F H -> BxOk K F0 H0 F B fp β -> jn H0 B p = none -> F p = none -> H p = some (.lst xs) -> Reps K F xs ds -> Dn.rt (.ref p) H
 | .rg d p r, β => ∀ v F H xs B fp, Ext F0 (jn H0 B) F H -> BxOk K F0 H0 F B fp β -> Rep K F v d -> jn H0 B p = none -> F p = none -> H p = some (.lst xs) -> Reps K F xs r -> Dn.rt v H
 | .rp _ _, _ => False
 | .rgf _ _ _, _ => False
theorem okW.mono {K : W.Frag} {F0 H0 Fb Fb' : Hp} {Dn : Ends} (s : Same Fb Fb') : ∀ {o : Out} {β : Bx}, okW K F0 H0 Fb Dn o β -> okW K F0 H0 Fb' Dn o β
 | .nx _, _, h => fun F H σ rl q => h F H σ rl (s.trans q)
 | .bk _, _, h => fun F H σ rl q => h F H σ rl (s.trans q)
 | .ct _, _, h => fun F H σ rl q => h F H σ rl (s.trans q)
 | .rt _, _, h => h
 | .rf _, _, h => h
 | .rp _ _, _, h => h
 | .rg _ _ _, _, h => h
 | .rgf _ _ _, _, h => h
def TSw (K : W.Frag) (m : MW) : TS := fun Dn σ H => ∃ F0 H0 F ρ β o β', RlW K F0 H0 F H σ ρ β /\ m ρ β = some (o, β') /\ okW K F0 H0 F Dn o β'
def PSsw (X : Cx) (st : List Stmt) (m : MW) : Prop := PSs X st (TSw X.K m)
theorem RlW.go {K : W.Frag} {F0 H0 F H F' H' : Hp} {σ : St} {ρ : Ro} {β : Bx} (h : RlW K F0 H0 F H σ ρ β) (e : Ext F H F' H') : RlW K F0 H0 F' H' σ ρ β := let ⟨B, fp, rl, ok⟩ := h; ⟨B, fp, rl.go e, ok.mono e.ff⟩
theorem RlW.fh {K : W.Frag} {F0 H0 F H : Hp} {σ : St} {ρ : Ro} {β : Bx} (h : RlW K F0 H0 F H σ ρ β) : Same F H := let ⟨_, _, rl, _⟩ := h; rl.fh
section
variable {X : Cx} {a b c e : Expr} {pos : Pos} {st : Stmt} {rest : List Stmt}
def flD : Fl -> D
 | .v d => d
 | .l ds => .lst ds
def cellD : Cell -> D
 | .ins c ns fs => .obj c ns (fs.map flD)
 | .row fs => .lst (fs.map flD)
 | .tb P _ _ _ => .ptr P
end
section
variable {K : W.Frag} {F0 H0 F H B : Hp} {σ : St} {ρ : Ro} {β : Bx} {fp : List Addr}
theorem FlR.rep {G : Hp} {xs : List V} {fs : List Fl} (hF : Same F G) (hB : Same B G) (h : FlR K F B fp xs fs) : Reps K G xs (fs.map flD) := by
 induction h with
 | nil => exact .nil
 | v r _ ih => exact .cons (r.mono hF) ih
 | l b r _ ih => exact .cons (.lst (SqL.of (hB _ _ b)) (r.mono hF)) ih
theorem CellR.rep {G : Hp} {p : Addr} {c : Cell} (hF : Same F G) (hB : Same B G) (h : CellR K F B fp p c) : Rep K G (.ref p) (cellD c) := by
 cases h with
 | ins a l b d r => exact .obj a l (hB _ _ b) (hB _ _ d) (r.rep hF hB)
 | row b r => exact .lst (SqL.of (hB _ _ b)) (r.rep hF hB)
 | tb _ _ _ _ => exact .ptr _
theorem BxR.at' {p : Addr} {c : Cell} : ∀ {fp : List Addr} {β : Bx}, BxR K F B fp β -> β.lookup p = some c -> ∃ fq, CellR K F B fq p c
 | _, _, .nil, e => by cases e
 | _, _, .cons (p := q) h r, e => by
  rw [lookup_cons] at e
  split at e
  ·rename_i z
   have z := beq_iff_eq.mp z
   subst z
   cases e
   exact ⟨_, h⟩
  ·exact r.at' e
end
section
variable {X : Cx} {a b c e : Expr} {pos : Pos}
end
end
section
def cut (H B : Hp) : Hp := fun a => match B a with | some _ => none | none => H a
theorem cut_in {H B : Hp} {a : Addr} (h : B a ≠ none) : cut H B a = none := by
 unfold cut
 cases q : B a with
 | none => exact absurd q h
 | some o => rfl
theorem cut_out {H B : Hp} {a : Addr} (h : B a = none) : cut H B a = H a := by unfold cut; rw [h]
theorem jn_cut {H B : Hp} (h : Same B H) : jn (cut H B) B = H := by
 funext a
 cases q : B a with
 | none => rw [jn_none q, cut_out q]
 | some o => rw [jn_some q, h a o q]
abbrev MFW := List D -> Bx -> Option (Rt × Bx)
def okTW (K : W.Frag) (F H B : Hp) (Q : VK) : Rt -> Bx -> Prop
 | .sh d, β => ∀ v F' H' B' fp', Ext F (jn (cut H B) B') F' H' -> BxOk K F (cut H B) F' B' fp' β -> Rep K F' v d -> Q v H'
 | .fr ds, β => ∀ p xs F' H' B' fp', Ext F (jn (cut H B) B') F' H' -> BxOk K F (cut H B) F' B' fp' β -> jn (cut H B) B' p = none -> F' p = none -> H' p = some (.lst xs) -> Reps K F' xs ds -> Q (.ref p) H'
 | .pr _ _, _ => False
def spW (K : W.Frag) (n : Nat) (m : MFW) : Sp := fun vs H Q _ => vs.length = n /\ ∃ F B fp ds β r β', Same F H /\ Same B H /\ BxOk K F (cut H B) F B fp β /\ Reps K F vs ds /\ m ds β = some (r, β') /\ okTW K F H B Q r β'
def runW (n : Nat) (m : MW) : MFW := fun ds β => match m (startS n ds) β with
 | some (.nx _, β') => some (.sh .non, β'.drop (β'.length - β.length))
 | some (.rt d, β') => some (.sh d, β'.drop (β'.length - β.length))
 | some (.rf es, β') => some (.fr es, β'.drop (β'.length - β.length))
 | _ => none
theorem BxR.drop {K : W.Frag} {F B : Hp} : ∀ {fp : List Addr} {β : Bx} (k : Nat), BxR K F B fp β -> ∃ fq, BxR K F B fq (β.drop k) /\ fq.Sublist fp
 | _, _, 0, h => ⟨_, h, List.Sublist.refl _⟩
 | _, _, k + 1, .nil => ⟨_, .nil, List.Sublist.refl _⟩
 | _, _, k + 1, .cons c r => by
  obtain ⟨fq, h, s⟩ := BxR.drop k r
  exact ⟨fq, h, s.trans (sublist_append_right _ _)⟩
theorem BxOk.drop {K : W.Frag} {F0 H0 F B : Hp} {fp : List Addr} {β : Bx} (h : BxOk K F0 H0 F B fp β) (k : Nat) : ∃ fq, BxOk K F0 H0 F B fq (β.drop k) := by
 obtain ⟨fq, r, s⟩ := h.bx.drop k
 exact ⟨fq, h.out, r, h.nd.sublist s, h.plain⟩
theorem Fun.okW {P : Program} {w : World} {K : W.Frag} {mg : Str -> Option Value} {base : Heap} {x qual : Str} {st : Stmt} {f : Addr} {fd : FuncData} {N ps : List Str} {k : Nat} {m : MW} (Fn : Fun K x qual st f fd) (Sc : FnScope N ps (defScope st))
  (hbody : ∀ (cdv : Value) (A : Around) (outer : List Env) (s : Shared) (H : Hp) (E : XK), Room k (A.deeper (envOfC qual (defScope st) s.heap.objs.size f cdv)) -> PSsw (cxOf CX0 P w K mg base N qual (defScope st) f cdv A outer s H E).nox (defBody st) m) :
  FnOk P w K mg base CX0 (k + 1) f fd ps (spW K ps.length (runW N.length m)) := by
 refine Fn.ok Sc (fun vs H Q E h => h.1) fun cdv A outer s H vs Q E hr h => ?_
 obtain ⟨hl, F, B, fp, ds, β, r, β', sf, sb, bo, rs, e, ok⟩ := h
 unfold runW at e
 refine ⟨_, hbody cdv A outer s H E hr, F, cut H B, F, startS N.length ds, β, ?_⟩
 have start : RlW K F (cut H B) F H (start N vs) (startS N.length ds) β := ⟨B, fp, by rw [jn_cut sb]; exact rl_start sf rs, bo⟩
 split at e
 ·rename_i ρ β1 h1
  cases e
  refine ⟨_, _, start, h1, fun F' H' σ' rl _ => ?_⟩
  obtain ⟨B', fp', rl', k'⟩ := rl
  obtain ⟨fq, k2⟩ := k'.drop (β1.length - β.length)
  exact ok .non F' H' B' fq rl'.ext k2 .non
 ·rename_i d β1 h1
  cases e
  refine ⟨_, _, start, h1, fun v F' H' B' fp' x k' rp => ?_⟩
  obtain ⟨fq, k2⟩ := k'.drop (β1.length - β.length)
  exact ok v F' H' B' fq x k2 rp
 ·rename_i es β1 h1
  cases e
  refine ⟨_, _, start, h1, fun p xs F' H' B' fp' x k' a1 a2 a3 a4 => ?_⟩
  obtain ⟨fq, k2⟩ := k'.drop (β1.length - β.length)
  exact ok p xs F' H' B' fq x k2 a1 a2 a3 a4
 ·cases e
section
variable {K : W.Frag} {F0 H0 F H B : Hp} {σ : St} {ρ : Ro} {β : Bx} {fp : List Addr}
theorem BxOk.call (rl : Rl K F0 (jn H0 B) F H σ ρ) (ok : BxOk K F0 H0 F B fp β) : Same B H /\ BxOk K F (cut H B) F B fp β := by
 have bh : Same B H := fun a o e => rl.ext.hh a o (jn_some e)
 refine ⟨bh, fun a h => ⟨cut_in h, ?_⟩, ok.bx, ok.nd, ok.plain⟩
 cases q : F a with
 | none => rfl
 | some o =>
  have := rl.ext.new a (ok.out a h).2 (by rw [q]; simp)
  exact absurd (jn_free this).1 h
theorem RlW.back' {F' H' B' : Hp} {fp' : List Addr} {β' : Bx} (rl : Rl K F0 (jn H0 B) F H σ ρ) (ok : BxOk K F0 H0 F B fp β) (x : Ext F (jn (cut H B) B') F' H') (ok' : BxOk K F (cut H B) F' B' fp' β') : Rl K F0 (jn H0 B') F' H' σ ρ /\ BxOk K F0 H0 F' B' fp' β' := by
 have h0 : ∀ a o, H0 a = some o -> B a = none /\ H a = some o /\ B' a = none := fun a o e => by
  have b : B a = none := by
   cases q : B a with
   | none => rfl
   | some u => have := (ok.out a (by rw [q]; simp)).1; rw [this] at e; cases e
  have h := rl.ext.hh a o (by rw [jn_none b]; exact e)
  refine ⟨b, h, ?_⟩
  cases q : B' a with
  | none => rfl
  | some u => have := (ok'.out a (by rw [q]; simp)).1; rw [cut_out b, h] at this; cases this
 have mine : ∀ p xs, jn H0 B p = none -> F p = none -> H p = some (.lst xs) -> F' p = none /\ jn H0 B' p = none /\ H' p = some (.lst xs) := fun p xs e1 e2 e3 => by
  obtain ⟨b, h⟩ := jn_free e1
  have c : cut H B p = some (.lst xs) := by rw [cut_out b]; exact e3
  have b' : B' p = none := by
   cases q : B' p with
   | none => rfl
   | some u => have := (ok'.out p (by rw [q]; simp)).1; rw [c] at this; cases this
  have j : jn (cut H B) B' p = some (.lst xs) := by rw [jn_none b']; exact c
  refine ⟨?_, by rw [jn_none b']; exact h, x.hh p _ j⟩
  cases q : F' p with
  | none => rfl
  | some u => have := x.new p e2 (by rw [q]; simp); rw [j] at this; cases this
 refine ⟨⟨⟨rl.ext.ff.trans x.ff, fun a o e => ?_, x.fh, fun b e n => ?_, fun b o u e => rl.ext.nf b o u (x.nf b o u e)⟩, rl.len, fun i d e => ?_, fun i ds e => ?_, rl.inj, fun i p ds e => ?_, rl.obn, rl.ob1⟩, fun a h => ⟨?_, ?_⟩, ok'.bx, ok'.nd, ok'.plain⟩
 ·cases q : B' a with
  | some u => rw [jn_some q] at e; cases e; exact x.hh a _ (jn_some q)
  | none =>
   rw [jn_none q] at e
   obtain ⟨b, h, _⟩ := h0 a o e
   exact x.hh a o (by rw [jn_none q, cut_out b]; exact h)
 ·cases q1 : F b with
  | none =>
   obtain ⟨b', c⟩ := jn_free (x.new b q1 n)
   rw [jn_none b']
   cases q : H0 b with
   | none => rfl
   | some o => obtain ⟨z, h, _⟩ := h0 b o q; rw [cut_out z, h] at c; cases c
  | some o =>
   have := rl.ext.new b e (by rw [q1]; simp)
   obtain ⟨_, h⟩ := jn_free this
   cases q : B' b with
   | none => rw [jn_none q]; exact h
   | some u => have := (ok'.out b (by rw [q]; simp)).2; rw [q1] at this; cases this
 ·obtain ⟨v, a1, a2⟩ := rl.sh i d e
  exact ⟨v, a1, a2.mono x.ff⟩
 ·obtain ⟨p, xs, a1, a2, a3, a4, a5⟩ := rl.own i ds e
  obtain ⟨b1, b2, b3⟩ := mine p xs a5 a2 a3
  exact ⟨p, xs, a1, b1, b3, a4.mono x.ff, b2⟩
 ·obtain ⟨a1, a2, a3, xs, a4, a5⟩ := rl.ob i p ds e
  obtain ⟨b1, b2, b3⟩ := mine p xs a3 a2 a4
  exact ⟨a1, b1, b2, xs, b3, a5.mono x.ff⟩
 ·cases q : H0 a with
  | none => rfl
  | some o => exact absurd (h0 a o q).2.2 h
 ·cases q : F0 a with
  | none => rfl
  | some o => have := (ok'.out a h).2; rw [rl.ext.ff a o q] at this; cases this
theorem RlW.back {F' H' B' : Hp} {fp' : List Addr} {β' : Bx} (rl : Rl K F0 (jn H0 B) F H σ ρ) (ok : BxOk K F0 H0 F B fp β) (x : Ext F (jn (cut H B) B') F' H') (ok' : BxOk K F (cut H B) F' B' fp' β') : RlW K F0 H0 F' H' σ ρ β' := let ⟨a, b⟩ := RlW.back' rl ok x ok'; ⟨B', fp', a, b⟩
end
section
variable {X : Cx} {a b c e o : Expr} {pos : Pos} {st : Stmt} {rest : List Stmt} {E : XK} {es : List Expr} {mf : MFW} {m : ML}
end
end
section
section
variable {X : Cx} {a b c e o : Expr} {pos apos : Pos} {E : XK} {es : List Expr} {m : ML} {mo : ME}
end
def updB (p : Addr) (c' : Cell) : Bx -> Bx
 | [] => []
 | (q, c) :: β => if q = p then (q, c') :: β else (q, c) :: updB p c' β
section
variable {K : W.Frag} {F0 H0 F H B : Hp} {σ : St} {ρ : Ro} {β : Bx} {fp : List Addr}
theorem BxR.upd {p : Addr} {c : Cell} : ∀ {fp : List Addr} {β : Bx}, BxR K F B fp β -> fp.Nodup -> β.lookup p = some c -> ∃ fq, CellR K F B fq p c /\ fq.Nodup /\ (∀ a ∈ fq, a ∈ fp) /\
  ∀ (c' : Cell) (fq' : List Addr) (B' F' : Hp), Same F F' -> CellR K F' B' fq' p c' -> fq'.Nodup -> (∀ a ∈ fp, a ∉ fq -> B' a = B a) -> (∀ a ∈ fq', a ∈ fq \/ a ∉ fp) -> ∃ fp', BxR K F' B' fp' (updB p c' β) /\ fp'.Nodup /\ ∀ a ∈ fp', a ∈ fp \/ a ∈ fq'
 | _, _, .nil, _, e => by cases e
 | _, _, .cons (fp := f0) (fq := f1) (p := q) (c := c0) (β := β) h r, nd, e => by
  obtain ⟨n0, n1, n2⟩ := List.nodup_append.mp nd
  have dj : ∀ a, a ∈ f0 -> a ∈ f1 -> False := fun a h1 h2 => n2 a h1 a h2 rfl
  rw [lookup_cons] at e
  cases z : p == q with
  | true =>
   rw [z] at e
   have z := beq_iff_eq.mp z
   subst z
   cases e
   refine ⟨f0, h, n0, fun a ha => mem_append_left _ ha, fun c' fq' B' F' sf hc nq ag fr => ?_⟩
   unfold updB
   rw [if_pos rfl]
   refine ⟨fq' ++ f1, .cons hc (r.mono sf fun a ha => ag a (mem_append_right _ ha) fun z => dj a z ha), List.nodup_append.mpr ⟨nq, n1, fun a h1 b h2 hab => ?_⟩, fun a ha => ?_⟩
   ·subst hab
    rcases fr a h1 with z | z
    ·exact dj a z h2
    ·exact z (mem_append_right _ h2)
   ·rcases List.mem_append.mp ha with z | z
    ·exact .inr z
    ·exact .inl (mem_append_right _ z)
  | false =>
   rw [z] at e
   have hne : ¬ q = p := fun y => by rw [y, beq_self_eq_true] at z; cases z
   obtain ⟨fq, h1, nq0, hin, hup⟩ := r.upd n1 e
   refine ⟨fq, h1, nq0, fun a ha => mem_append_right _ (hin a ha), fun c' fq' B' F' sf hc nq ag fr => ?_⟩
   obtain ⟨fp', r', nd', hm⟩ := hup c' fq' B' F' sf hc nq (fun a ha hn => ag a (mem_append_right _ ha) hn) fun a ha => (fr a ha).imp id fun z y => z (mem_append_right _ y)
   unfold updB
   rw [if_neg hne]
   refine ⟨f0 ++ fp', .cons (h.mono sf fun a ha => ag a (mem_append_left _ ha) fun y => dj a ha (hin a y)) r', List.nodup_append.mpr ⟨n0, nd', fun a h1 b h2 hab => ?_⟩, fun a ha => ?_⟩
   ·subst hab
    rcases hm a h2 with z | z
    ·exact dj a h1 z
    ·rcases fr a z with y | y
     ·exact dj a h1 (hin a y)
     ·exact y (mem_append_left _ h1)
   ·rcases List.mem_append.mp ha with z | z
    ·exact .inl (mem_append_left _ z)
    ·exact (hm a z).imp (mem_append_right _) id
end
end
section
def putN (f : Str) (w : Fl) : List Str -> List Fl -> List Str × List Fl
 | n :: ns, g :: gs => if n = f then (n :: ns, w :: gs) else (n :: (putN f w ns gs).1, g :: (putN f w ns gs).2)
 | _, _ => ([f], [w])
section
variable {K : W.Frag} {F0 H0 F H B : Hp} {σ : St} {ρ : Ro} {β : Bx} {fp : List Addr}
theorem FlR.length {xs : List V} {fs : List Fl} (h : FlR K F B fp xs fs) : xs.length = fs.length := by
 induction h with
 | nil => rfl
 | v _ _ ih => simp [ih]
 | l _ _ _ ih => simp [ih]
theorem FlR.one_cons {fw : List Addr} {y : V} {w : Fl} (h : FlR K F B fw [y] [w]) {fq : List Addr} {xs : List V} {fs : List Fl} (r : FlR K F B fq xs fs) : FlR K F B (fw ++ fq) (y :: xs) (w :: fs) := by
 cases h with
 | v a b => cases b; exact .v a r
 | l a b c => cases c; exact .l a b r
theorem FlR.put {f : Str} {y : V} {w : Fl} {fw : List Addr} (hw : FlR K F B fw [y] [w]) (nw : fw.Nodup) : ∀ {fq : List Addr} {ns : List Str} {xs : List V} {fs : List Fl}, FlR K F B fq xs fs -> ns.length = xs.length -> fq.Nodup -> (∀ a ∈ fw, a ∉ fq) ->
  ∃ xs' fq', putF f y (ns.zip xs) = (putN f w ns fs).1.zip xs' /\ (putN f w ns fs).1.length = xs'.length /\ FlR K F B fq' xs' (putN f w ns fs).2 /\ fq'.Nodup /\ ∀ a ∈ fq', a ∈ fq \/ a ∈ fw
 | _, [], _, _, .nil, _, _, _ => ⟨[y], fw, rfl, rfl, hw, nw, fun a h => .inr h⟩
 | _, _ :: _, _, _, .nil, hl, _, _ => by cases hl
 | _, [], _, _, .v _ _, hl, _, _ => by cases hl
 | _, [], _, _, .l _ _ _, hl, _, _ => by cases hl
 | fq, n :: ns, x :: xs, _ :: fs, .v r rr, hl, nd, dj => by
  have l' : ns.length = xs.length := by simpa using hl
  by_cases hn : n = f
  ·refine ⟨y :: xs, fw ++ fq, ?_, ?_, ?_, ?_, ?_⟩
   ·rw [zip_cons_cons]; unfold putF putN; rw [if_pos hn, if_pos hn]; rfl
   ·unfold putN; rw [if_pos hn]; simpa using hl
   ·unfold putN; rw [if_pos hn]; exact hw.one_cons rr
   ·exact List.nodup_append.mpr ⟨nw, nd, fun a h1 b h2 e => by subst e; exact dj a h1 h2⟩
   ·intro a ha; exact (List.mem_append.mp ha).symm
  ·obtain ⟨xs', fq', e1, e2, e3, e4, e5⟩ := FlR.put (f := f) hw nw rr l' nd dj
   refine ⟨x :: xs', fq', ?_, ?_, ?_, e4, e5⟩
   ·rw [zip_cons_cons]; unfold putF putN; rw [if_neg hn, if_neg hn, e1]; rfl
   ·unfold putN; rw [if_neg hn]; simp [e2]
   ·unfold putN; rw [if_neg hn]; exact .v r e3
 | _, n :: ns, _ :: xs, _ :: fs, .l (fp := fq) (q := q) b r rr, hl, nd, dj => by
  have l' : ns.length = xs.length := by simpa using hl
  have nd' := List.nodup_cons.mp nd
  have dj' : ∀ a ∈ fw, a ∉ fq := fun a h1 h2 => dj a h1 (mem_cons_of_mem _ h2)
  by_cases hn : n = f
  ·refine ⟨y :: xs, fw ++ fq, ?_, ?_, ?_, ?_, ?_⟩
   ·rw [zip_cons_cons]; unfold putF putN; rw [if_pos hn, if_pos hn]; rfl
   ·unfold putN; rw [if_pos hn]; simpa using hl
   ·unfold putN; rw [if_pos hn]; exact hw.one_cons rr
   ·exact List.nodup_append.mpr ⟨nw, nd'.2, fun a h1 b h2 e => by subst e; exact dj' a h1 h2⟩
   ·intro a ha
    rcases List.mem_append.mp ha with z | z
    ·exact .inr z
    ·exact .inl (mem_cons_of_mem _ z)
  ·obtain ⟨xs', fq', e1, e2, e3, e4, e5⟩ := FlR.put (f := f) hw nw rr l' nd'.2 dj'
   refine ⟨.ref q :: xs', q :: fq', ?_, ?_, ?_, ?_, ?_⟩
   ·rw [zip_cons_cons]; unfold putF putN; rw [if_neg hn, if_neg hn, e1]; rfl
   ·unfold putN; rw [if_neg hn]; simp [e2]
   ·unfold putN; rw [if_neg hn]; exact .l b r e3
   ·refine List.nodup_cons.mpr ⟨fun h => ?_, e4⟩
    rcases e5 q h with z | z
    ·exact nd'.1 z
    ·exact dj q z (by simp)
   ·intro a ha
    rcases List.mem_cons.mp ha with rfl | z
    ·exact .inl (by simp)
    ·exact (e5 a z).imp (mem_cons_of_mem _) id
end
section
variable {X : Cx} {value o : Expr} {pos pos' : Pos} {f : Str}
end
end
section
section
variable {X : Cx} {value e o : Expr} {pos pos' apos cpos : Pos} {f : Str} {st : Stmt} {rest : List Stmt}
def getN (f : Str) : List Str -> List Fl -> Option Fl
 | n :: ns, g :: gs => if n = f then some g else getN f ns gs
 | _, _ => none
theorem FlR.get {K : W.Frag} {F B : Hp} {f : Str} {ds : List D} : ∀ {fq : List Addr} {ns : List Str} {xs : List V} {fs : List Fl}, FlR K F B fq xs fs -> ns.length = xs.length -> fq.Nodup -> getN f ns fs = some (.l ds) ->
  ∃ q ys, (ns.zip xs).lookup f = some (.ref q) /\ q ∈ fq /\ B q = some (.lst ys) /\ Reps K F ys ds /\ ∀ (B' F' : Hp) ys' ds', Same F F' -> B' q = some (.lst ys') -> Reps K F' ys' ds' -> (∀ a ∈ fq, a ≠ q -> B' a = B a) -> FlR K F' B' fq xs (putN f (.l ds') ns fs).2 /\ (putN f (.l ds') ns fs).1 = ns
 | _, [], _, _, .nil, _, _, e => by cases e
 | _, _ :: _, _, _, .nil, hl, _, _ => by cases hl
 | _, [], _, _, .v _ _, hl, _, _ => by cases hl
 | _, [], _, _, .l _ _ _, hl, _, _ => by cases hl
 | fq, n :: ns, x :: xs, _ :: fs, .v r rr, hl, nd, e => by
  have l' : ns.length = xs.length := by simpa using hl
  unfold getN at e
  by_cases hn : n = f
  ·rw [if_pos hn] at e; cases e
  ·rw [if_neg hn] at e
   obtain ⟨q, ys, a1, a2, a3, a4, a5⟩ := FlR.get rr l' nd e
   have hb : (f == n) = false := by
    cases z : f == n with
    | false => rfl
    | true => exact absurd (beq_iff_eq.mp z).symm hn
   refine ⟨q, ys, by rw [zip_cons_cons, lookup_cons, hb]; exact a1, a2, a3, a4, fun B' F' ys' ds' sf b1 b2 b3 => ?_⟩
   obtain ⟨c1, c2⟩ := a5 B' F' ys' ds' sf b1 b2 b3
   unfold putN
   rw [if_neg hn]
   exact ⟨.v (r.mono sf) c1, by simp [c2]⟩
 | _, n :: ns, _ :: xs, _ :: fs, .l (fp := fq) (q := q0) b r rr, hl, nd, e => by
  have l' : ns.length = xs.length := by simpa using hl
  have nd' := List.nodup_cons.mp nd
  unfold getN at e
  by_cases hn : n = f
  ·rw [if_pos hn] at e; cases e
   have hb : (f == n) = true := beq_iff_eq.mpr hn.symm
   refine ⟨q0, _, by rw [zip_cons_cons, lookup_cons, hb], by simp, b, r, fun B' F' ys' ds' sf b1 b2 b3 => ?_⟩
   unfold putN
   rw [if_pos hn]
   exact ⟨.l b1 b2 (rr.mono sf fun a ha => b3 a (by simp [ha]) fun z => nd'.1 (z ▸ ha)), rfl⟩
  ·rw [if_neg hn] at e
   obtain ⟨q, ys, a1, a2, a3, a4, a5⟩ := FlR.get rr l' nd'.2 e
   have hb : (f == n) = false := by
    cases z : f == n with
    | false => rfl
    | true => exact absurd (beq_iff_eq.mp z).symm hn
   refine ⟨q, ys, by rw [zip_cons_cons, lookup_cons, hb]; exact a1, by simp [a2], a3, a4, fun B' F' ys' ds' sf b1 b2 b3 => ?_⟩
   obtain ⟨c1, c2⟩ := a5 B' F' ys' ds' sf b1 b2 fun a ha hq => b3 a (by simp [ha]) hq
   unfold putN
   rw [if_neg hn]
   exact ⟨.l (by rw [b3 q0 (by simp) fun z => nd'.1 (z ▸ a2)]; exact b) (r.mono sf) c1, by simp [c2]⟩
end
end
section
theorem Rl.forget {K : W.Frag} {F0 H0 F H : Hp} {σ : St} {ρ : Ro} (r : Rl K F0 H0 F H σ ρ) (i : Nat) : Rl K F0 H0 F H σ (ρ.set i none) := by
 have back : ∀ (j : Nat) x, (ρ.set i none)[j]? = some (some x) -> ρ[j]? = some (some x) := fun j x e => by
  by_cases hj : i = j
  ·subst hj
   rcases Nat.lt_or_ge i ρ.length with z | z
   ·rw [getElem?_set_self z] at e; cases e
   ·rw [getElem?_eq_none (by simpa using z)] at e; cases e
  ·rw [getElem?_set_ne hj] at e; exact e
 exact ⟨r.ext, by simp [r.len], fun j d e => r.sh j d (back j _ e), fun j ds e => r.own j ds (back j _ e), fun j k p ds es hjk e1 e2 => r.inj j k p ds es hjk (back j _ e1) (back k _ e2), fun j p ds e => r.ob j p ds (back j _ e), fun j k p ds es e1 e2 => r.obn j k p ds es (back j _ e1) (back k _ e2), fun j k p q ds es e1 e2 => r.ob1 j k p q ds es (back j _ e1) (back k _ e2)⟩
open Classical in
def letGo (i : Nat) (k : Nat) : Out × Bx -> Out × Bx
 | (.nx ρ, β) => (.nx (ρ.set i none), β.drop (β.length - k))
 | (.bk ρ, β) => (.bk (ρ.set i none), β.drop (β.length - k))
 | (.ct ρ, β) => (.ct (ρ.set i none), β.drop (β.length - k))
 | (o, β) => (o, β.drop (β.length - k))
theorem okW.letGo {K : W.Frag} {F0 H0 Fb : Hp} {Dn : Ends} {i k : Nat} : ∀ {o : Out} {β : Bx}, okW K F0 H0 Fb Dn (letGo i k (o, β)).1 (letGo i k (o, β)).2 -> okW K F0 H0 Fb Dn o β
 | .nx ρ, β, h => fun F H σ ⟨B, fp, rl, ok⟩ s => let ⟨fq, ok'⟩ := ok.drop (β.length - k); h F H σ ⟨B, fq, rl.forget i, ok'⟩ s
 | .bk ρ, β, h => fun F H σ ⟨B, fp, rl, ok⟩ s => let ⟨fq, ok'⟩ := ok.drop (β.length - k); h F H σ ⟨B, fq, rl.forget i, ok'⟩ s
 | .ct ρ, β, h => fun F H σ ⟨B, fp, rl, ok⟩ s => let ⟨fq, ok'⟩ := ok.drop (β.length - k); h F H σ ⟨B, fq, rl.forget i, ok'⟩ s
 | .rt d, β, h => fun v F H B fp x ok r => let ⟨fq, ok'⟩ := ok.drop (β.length - k); h v F H B fq x ok' r
 | .rf ds, β, h => fun p xs F H B fp x ok a b c r => let ⟨fq, ok'⟩ := ok.drop (β.length - k); h p xs F H B fq x ok' a b c r
 | .rg d p r, β, h => fun v F H xs B fp x ok a j b c e => let ⟨fq, ok'⟩ := ok.drop (β.length - k); h v F H xs B fq x ok' a j b c e
 | .rp _ _, _, h => h
 | .rgf _ _ _, _, h => h
section
variable {X : Cx} {e : Expr} {es : List Expr} {st : Stmt} {rest : List Stmt} {E : XK} {mf : MFW} {m : ML}
end
end
section
section
variable {X : Cx} {a b c e o : Expr} {pos : Pos} {st : Stmt} {rest : List Stmt} {E : XK} {es : List Expr} {mf : MFW}
end
end
section
theorem TD.mono {K : W.Frag} {m : ME} {σ : St} {H : Hp} {Q Q' : VK} (h : TD K m σ H Q) (i : ∀ v H', Q v H' -> Q' v H') : TD K m σ H Q' := let ⟨F0, H0, F, ρ, d, rl, e, q⟩ := h; ⟨F0, H0, F, ρ, d, rl, e, fun v F' H' x r => i _ _ (q v F' H' x r)⟩
section
variable {X : Cx} {e o : Expr} {E : XK}
end
end
section
section
variable {X : Cx} {e : Expr} {pos : Pos}
end
end
section
section
variable {K : W.Frag} {F0 H0 F H B : Hp} {σ : St} {ρ : Ro} {β : Bx} {fp : List Addr}
end
abbrev MGW := Addr -> List D -> List D -> Bx -> Option (D × List D × Bx)
section
variable {X : Cx} {e : Expr} {pos : Pos} {st : Stmt} {es : List Expr} {E : XK} {mf : MGW} {m : ML}
end
end
section
end
section
def qfnD (K : W.Frag) (nm ql : Str) (st : Stmt) (x : Addr) : Prop := ∃ (oc : Value) (o1 : Option Addr) (kV dc pm : Value) (o2 : Option Addr) (cd ct : Value) (sl : Array (Option Value)), K.lookup x = some ⟨oc, o1, .func (W.fnOf nm ql (defArgs st) (defBody st) (defScope st) .none kV dc pm o2 cd ct), sl⟩ /\ W.codeIn K cd ql = true /\ W.keepIn K (.ref x) = true
def QDn (K : W.Frag) (nm : Str) (st : Stmt) : Prop := ∃ x : Addr, W.nsIn K mainGlobals nm = some (some (.ref x)) /\ qfnD K nm nm st x
def QMn (K : W.Frag) (C : Addr) (nm ql : Str) (st : Stmt) : Prop := ∃ x : Addr, W.findIn K (.ref C) nm = some (some (.ref x)) /\ W.isFn K (.ref x) = true /\ qfnD K nm ql st x
theorem QDn.of {K : W.Frag} {nm : Str} {st : Stmt} {x : Addr} {oc : Value} {o1 : Option Addr} {kV dc pm : Value} {o2 : Option Addr} {cd ct : Value} {sl : Array (Option Value)} (e : W.nsIn K mainGlobals nm = some (some (.ref x))) (l : K.lookup x = some ⟨oc, o1, .func (W.fnOf nm nm (defArgs st) (defBody st) (defScope st) .none kV dc pm o2 cd ct), sl⟩) (c : W.codeIn K cd nm = true) (k : W.keepIn K (.ref x) = true) : QDn K nm st := ⟨x, e, oc, o1, kV, dc, pm, o2, cd, ct, sl, l, c, k⟩
theorem QMn.of {K : W.Frag} {C : Addr} {nm ql : Str} {st : Stmt} {x : Addr} {oc : Value} {o1 : Option Addr} {kV dc pm : Value} {o2 : Option Addr} {cd ct : Value} {sl : Array (Option Value)} (e : W.findIn K (.ref C) nm = some (some (.ref x))) (i : W.isFn K (.ref x) = true) (l : K.lookup x = some ⟨oc, o1, .func (W.fnOf nm ql (defArgs st) (defBody st) (defScope st) .none kV dc pm o2 cd ct), sl⟩) (c : W.codeIn K cd ql = true) (k : W.keepIn K (.ref x) = true) : QMn K C nm ql st := ⟨x, e, i, oc, o1, kV, dc, pm, o2, cd, ct, sl, l, c, k⟩
abbrev QBdD (nm ql : Str) (st : Stmt) (ps : List Str) (us : List Value) : Prop := ∀ (kV doc pm : Value) (an : Option Addr) (cdv ct : Value), bindArgs (W.fnOf nm ql (defArgs st) (defBody st) (defScope st) .none kV doc pm an cdv ct) ⟨us, []⟩ = pure (ps.zip us)
section
variable {P : Program} {w : World} {K : W.Frag} {mg : Str -> Option Value} {base h : Heap} {nm ql cn : Str} {st : Stmt} {ps : List Str} {sp : Sp} {n : Nat} {C : Addr}
def QDf (K : W.Frag) (mg : Str -> Option Value) (nm : Str) (st : Stmt) (ps : List Str) : Prop := ∃ f fd, Fun K nm nm st f fd /\ Binds K fd ps [] /\ mg nm = some (.ref f)
def QHd (P : Program) (w : World) (K : W.Frag) (mg : Str -> Option Value) (base : Heap) (n : Nat) (nm : Str) (ps : List Str) (sp : Sp) : Prop := ∃ f fd, FnOk P w K mg base CX0 n f fd ps sp /\ Binds K fd ps [] /\ W.keepIn K (.ref f) = true /\ mg nm = some (.ref f)
def QMf (K : W.Frag) (C : Addr) (nm ql : Str) (st : Stmt) (ps : List Str) : Prop := ∃ f fd, Fun K nm ql st f fd /\ Binds K fd ps [] /\ Meth K C nm f
def QHm (P : Program) (w : World) (K : W.Frag) (mg : Str -> Option Value) (base : Heap) (n : Nat) (C : Addr) (nm : Str) (ps : List Str) (sp : Sp) : Prop := ∃ f fd, FnOk P w K mg base CX0 n f fd ps sp /\ Binds K fd ps [] /\ Meth K C nm f
def QHi (P : Program) (w : World) (K : W.Frag) (mg : Str -> Option Value) (base : Heap) (n : Nat) (C : Addr) (cn : Str) (ps : List Str) (sp : Sp) : Prop := ∃ f fd, FnOk P w K mg base CX0 n f fd ps sp /\ Binds K fd ps [] /\ Mk K C f /\ mg cn = some (.ref C)
theorem qfnD.mk {x : Addr} (D : qfnD K nm ql st x) (hb : ∀ us : List Value, us.length = ps.length -> QBdD nm ql st ps us) : ∃ fd, Fun K nm ql st x fd /\ Binds K fd ps [] := by
 obtain ⟨oc, o1, kV, dc, pm, o2, cd, ct, sl, l, c, k⟩ := D
 exact ⟨_, fun_mk l c k, (fun_mk l c k).binds fun _ _ _ _ _ _ us hl => hb us hl _ _ _ _ _ _⟩
theorem QDn.df (D : QDn K nm st) (X : K.In h) (G : h.Ns mainGlobals mg) (hb : ∀ us : List Value, us.length = ps.length -> QBdD nm nm st ps us) : QDf K mg nm st ps := by
 obtain ⟨x, e, D⟩ := D
 obtain ⟨fd, F, b⟩ := D.mk hb
 exact ⟨x, fd, F, b, W.mg_of X G e⟩
theorem QMn.mf (D : QMn K C nm ql st) (hb : ∀ us : List Value, us.length = ps.length -> QBdD nm ql st ps us) : QMf K C nm ql st ps := by
 obtain ⟨x, e, i, D⟩ := D
 obtain ⟨fd, F, b⟩ := D.mk hb
 exact ⟨x, fd, F, b, e, i, F.kp⟩
theorem QDf.mk (D : QDf K mg nm st ps) (h : ∀ f fd, Fun K nm nm st f fd -> FnOk P w K mg base CX0 n f fd ps sp) : QHd P w K mg base n nm ps sp := by
 obtain ⟨f, fd, F, b, a⟩ := D
 exact ⟨f, fd, h f fd F, b, F.kp, a⟩
theorem QMf.mk (D : QMf K C nm ql st ps) (h : ∀ f fd, Fun K nm ql st f fd -> FnOk P w K mg base CX0 n f fd ps sp) : QHm P w K mg base n C nm ps sp := by
 obtain ⟨f, fd, F, b, m⟩ := D
 exact ⟨f, fd, h f fd F, b, m⟩
theorem QHm.hi (H : QHm P w K mg base n C "__init__" ps sp) (m1 : W.makesIn K C = true) (m2 : W.keepIn K (.ref C) = true) (a : mg cn = some (.ref C)) : QHi P w K mg base n C cn ps sp := by
 obtain ⟨f, fd, F, b, m⟩ := H
 exact ⟨f, fd, F, b, ⟨m1, m.at_, m.fn, m2⟩, a⟩
theorem qbd1 {P : List Value -> Prop} (h : ∀ a, P [a]) : ∀ us : List Value, us.length = 1 -> P us
 | [a], _ => h a
theorem qbd2 {P : List Value -> Prop} (h : ∀ a b, P [a, b]) : ∀ us : List Value, us.length = 2 -> P us
 | [a, b], _ => h a b
theorem qbd3 {P : List Value -> Prop} (h : ∀ a b c, P [a, b, c]) : ∀ us : List Value, us.length = 3 -> P us
 | [a, b, c], _ => h a b c
end
section
variable {X : Cx} {n k : Nat} {nm cn : Str} {ps : List Str} {sp : Sp} {e o : Expr} {es : List Expr} {ta : TE} {t : TA} {p pos apos : Pos} {C : Addr} {pl : Sem Bool}
theorem qcl (H : QHd X.prog X.w X.K X.mg X.base n nm ps sp) (hr : Room k X.A) (ha : PA X (e :: es) t) (hn : n <= k := by decide) (hg : Gl X nm := by rfl) (hdb : (nm == ("__debug__" : Str)) = false := by decide) (he : starEach (e :: es) X.env = (false, eval e X.env) :: starEach es X.env := by rfl) (hpl : (backTo pos (starEach es X.env)).any (·.1) = false := by rfl) :
  PE X (.Call (.Name nm p) (e :: es) [] pos) (tCall sp [] E0 t) := by
 obtain ⟨f, fd, F, b, kk, a⟩ := H
 exact pe_call (F.mono hn) hr hg a kk b .nil pass0 ha hdb he hpl
end
theorem qap {X : Cx} {o e : Expr} {es : List Expr} {to : TE} {t : TA} {apos cpos : Pos} (ho : PE X o to) (ha : PA X (e :: es) t)
  (hbase : attributeBase o "append" X.env (eval o X.env) = eval o X.env := by rfl)
  (hfew : ((backTo cpos (starEach (e :: es) X.env)).all (fun x => !x.1) && (backToKw cpos (keywordEach [] X.env)).all (fun x => x.1.isSome)
   && decide ((e :: es).length + ([] : List Keyword).length + (if ([] : List Keyword).isEmpty then 0 else 1) < 30)) = true := by rfl)
  (hline : (apos.endLine == cpos.line) = true := by rfl) (hs : starEach (e :: es) X.env = (false, eval e X.env) :: starEach es X.env := by rfl) (hplain : (backTo cpos (starEach es X.env)).any (·.1) = false := by rfl) :
  PE X (.Call (.Attribute o "append" apos) (e :: es) [] cpos) (tBM X.K "list" rAppend to t) := pe_bm PySem.F.plainAttrs_list PySem.F.slot_list_append PySem.F.type_list_append mt_append ho ha hbase hfew hline hs hplain
section
variable {a b c d e f : ME} (ρ : Ro) (ds : List D)
theorem qal1 : acons a anil ρ = some ds -> ds.length = 0 + 1 := acons_len anil_len ρ ds
theorem qal2 : acons a (acons b anil) ρ = some ds -> ds.length = 0 + 1 + 1 := acons_len qal1 ρ ds
theorem qal3 : acons a (acons b (acons c anil)) ρ = some ds -> ds.length = 0 + 1 + 1 + 1 := acons_len qal2 ρ ds
end
theorem qsc {N P : List Str} {sc : Scope} (a : sc.kind = .function := by rfl) (b : sc.isCoroutine = false := by rfl) (c : sc.isGenerator = false := by rfl) (d : N.Nodup := by decide +kernel) (e : N.take P.length = P := by rfl) (f : ∀ x ∈ P, sc.names.lookup x = some .local \/ sc.names.lookup x = some .cell := by decide +kernel) (g : ∀ y ∈ sc.names, y.2 ≠ .free := by decide +kernel) : FnScope N P sc := ⟨a, b, c, d, e, f, g⟩
end
section
section
variable {X : Cx} {a b c e : Expr} {pos : Pos} {st : Stmt}
end
end
section
def low (m : MW) : MS := fun ρ => match m ρ [] with | some (o, _) => some o | none => none
section
variable {X : Cx} {st : Stmt} {sts : List Stmt}
end
end
section
section
variable {X : Cx} {a b c e k : Expr} {te : TE} {ma mb : ME} {la lb : ML} {pos p2 : Pos} {st : Stmt}
def KTup (K : W.Frag) (a : Addr) (xs : List Str) : Prop := ∃ (o : Obj) (its : Array Value) (n : Nat), K.lookup a = some o /\ o.cls = .type "tuple" /\ o.data = .seq its n /\ its.size <= sizeLine /\ Vals (xs.map V.str) its.toList /\ o.dict = none
theorem KTup.rep {K : W.Frag} {F : Hp} {a : Addr} {xs : List Str} (h : KTup K a xs) : Rep K F (.ref a) (.tup (xs.map .str)) := let ⟨o, its, n, h1, h2, h3, h4, h5, _⟩ := h; .tup (.inr ⟨o, its, n, h1, h2, h3, h4, h5⟩) (reps_strs xs)
end
end
section
def ObjAt (a : Addr) (o : Obj) : Heap -> Prop := fun h => h.get? a = some o
section
variable {X : Cx} {P : Addr} {pos : Pos} {q : Str} {params : Arguments} {body : Expr} {sc : Scope}
end
end
section
section
variable {X : Cx} {pins : List (Addr × Obj)} {σ : St} {H : Hp} {s : Shared}
def LamP (X : Cx) (σ : St) (ρ : Ro) (q : Str) (c f : Addr) (o : Obj) (F H : Hp) : Prop := (∃ F0 H0, Rl X.K F0 H0 F H σ ρ) /\ F c = some (.ext (CodeAt c q)) /\ F f = some (.ext (ObjAt f o))
theorem LamP.go {ρ : Ro} {q : Str} {c f : Addr} {o : Obj} {F H F' H' : Hp} (h : LamP X σ ρ q c f o F H) (x : Ext F H F' H') : LamP X σ ρ q c f o F' H' :=
 let ⟨⟨F0, H0, rl⟩, h1, h2⟩ := h; ⟨⟨F0, H0, rl.go x⟩, x.ff _ _ h1, x.ff _ _ h2⟩
end
end
section
section
variable {X : Cx} {pins : List (Addr × Obj)} {σ : St}
end
end
section
open Classical in
section
variable {X : Cx}
end
section
variable {P : Program} {w : World} {K : W.Frag} {mg : Str -> Option Value} {base : Heap} {nm : Str} {st : Stmt} {ps : List Str} {sp : Sp} {n : Nat}
end
end
section
theorem TabF.of {K : W.Frag} {mw : Str} {P f c : Addr} {oc : Value} {od o1 : Option Addr} {fd : FuncData} {sl sl1 : Array (Option Value)} {vs : Array Value} (e : W.nsIn K mainGlobals mw = some (some (.ref f))) (l : K.lookup f = some ⟨oc, od, .func fd, sl⟩) (hc : fd.code = .ref c) (lc : K.lookup c = some ⟨.type "code", o1, .fields vs, sl1⟩)
  (hv : ∃ file tf flags tg inF text tt, vs[11]? = some (.ref P) /\ vs.getD 11 .none = .ref P /\ vs.getD 18 .none = .str file tf /\ vs.getD 7 .none = .int flags tg /\ vs.getD 9 .none = .bool inF /\ vs.getD 10 .none = .int text tt) (hcP : c ≠ P)
  (n4 : mainGlobals ≠ P) : TabF K mw P := by
 obtain ⟨file, tf, flags, tg, inF, text, tt, v1, v2, v3, v4, v5, v6⟩ := hv
 exact ⟨f, oc, od, fd, sl, e, l, ⟨c, hc, fun h X => ⟨_, vs, file, tf, flags, tg, inF, text, tt, X _ _ lc, rfl, rfl, v1, v2, v3, v4, v5, v6, hcP⟩⟩, n4⟩
end
section
section
variable {K : W.Frag} {F0 H0 F H B : Hp} {σ : St} {ρ : Ro} {β : Bx} {fp : List Addr}
theorem FlR.at' {n : Nat} {ds : List D} : ∀ {n : Nat} {fp : List Addr} {xs : List V} {fs : List Fl}, FlR K F B fp xs fs -> fp.Nodup -> fs[n]? = some (.l ds) -> ∃ q ys, xs[n]? = some (.ref q) /\ q ∈ fp /\ B q = some (.lst ys) /\ Reps K F ys ds /\
  ∀ (B' F' : Hp) ys' ds', Same F F' -> B' q = some (.lst ys') -> Reps K F' ys' ds' -> (∀ a ∈ fp, a ≠ q -> B' a = B a) -> FlR K F' B' fp xs (fs.set n (.l ds'))
 | _, _, _, _, .nil, _, e => by simp at e
 | 0, _, _, _, .v _ _, _, e => by simp at e
 | n + 1, _, _, _, .v r t, nd, e => by
  obtain ⟨q, ys, a1, a2, a3, a4, a5⟩ := FlR.at' (n := n) t nd (by simpa using e)
  exact ⟨q, ys, by simpa using a1, a2, a3, a4, fun B' F' ys' ds' sf b1 b2 b3 => .v (r.mono sf) (a5 B' F' ys' ds' sf b1 b2 b3)⟩
 | 0, _, _, _, .l (fp := fp) (q := q) b r t, nd, e => by
  simp at e
  subst e
  have hn := List.nodup_cons.mp nd
  exact ⟨q, _, rfl, by simp, b, r, fun B' F' ys' ds' sf b1 b2 b3 => .l b1 b2 (t.mono sf fun a ha => b3 a (by simp [ha]) fun z => hn.1 (z ▸ ha))⟩
 | n + 1, _, _, _, .l (fp := fp) (q := q0) b r t, nd, e => by
  have hn := List.nodup_cons.mp nd
  obtain ⟨q, ys, a1, a2, a3, a4, a5⟩ := FlR.at' (n := n) t hn.2 (by simpa using e)
  exact ⟨q, ys, by simpa using a1, by simp [a2], a3, a4, fun B' F' ys' ds' sf b1 b2 b3 => .l (by rw [b3 q0 (by simp) fun z => hn.1 (z ▸ a2)]; exact b) (r.mono sf) (a5 B' F' ys' ds' sf b1 b2 fun a ha hq => b3 a (by simp [ha]) hq)⟩
end
section
variable {X : Cx} {a b c e : Expr} {pos : Pos} {st : Stmt} {rest : List Stmt} {E : XK} {es : List Expr} {mf : MFW} {m : ML}
end
end
section
section
variable {X : Cx} {pins : List (Addr × Obj)} {σ : St}
end
section
variable {X : Cx}
end
end
section
section
variable {X : Cx} {pins : List (Addr × Obj)} {σ : St}
end
section
variable {X : Cx} {pos : Pos}
end
end
section
section
variable {X : Cx} {e : Expr} {pos : Pos} {es : List Expr} {m : ML} {mf : MF} {E : XK}
end
def NewPs (K : W.Frag) (H F' : Hp) (xs : List V) (out : List D) : Prop := ∀ (i : Nat) x g, xs[i]? = some x -> out[i]? = some g -> ∃ t v q zs d es, x = .ref t /\ g = .tup [d, .lst es] /\ H t = none /\ H q = none /\ t ≠ q /\ F' t = some (.tup [v, .ref q]) /\ F' q = some (.lst zs) /\ Rep K F' v d /\ Reps K F' zs es
theorem NewPs.mono {K : W.Frag} {H F' F'' : Hp} {xs : List V} {out : List D} (n : NewPs K H F' xs out) (s : Same F' F'') : NewPs K H F'' xs out := fun i x g a b => by
 obtain ⟨t, v, q, zs, d, es, h1, h2, h3, h4, h5, h6, h7, h8, h9⟩ := n i x g a b
 exact ⟨t, v, q, zs, d, es, h1, h2, h3, h4, h5, s _ _ h6, s _ _ h7, h8.mono s, h9.mono s⟩
section
variable {X : Cx} {pos : Pos}
end
end
section
abbrev Up (xs : Array Nat) : Prop := xs.toList.Pairwise (· < ·)
theorem Up.lt {xs : Array Nat} (h : Up xs) {i j : Nat} (hij : i < j) (hj : j < xs.size) : xs[i]'(by omega) < xs[j] := by
 have := List.pairwise_iff_getElem.mp h i j (by simpa using (by omega : i < xs.size)) (by simpa using hj) hij
 simpa using this
def IsBelow (xs : Array Nat) (j b : Nat) : Prop := b <= xs.size /\ (∀ i (h : i < xs.size), i < b -> xs[i] < j) /\ ∀ i (h : i < xs.size), b <= i -> j <= xs[i]
theorem below_go {xs : Array Nat} (hu : Up xs) (j : Nat) : ∀ (fuel lo hi : Nat), lo <= hi -> hi <= xs.size -> hi - lo <= fuel -> (∀ i (h : i < xs.size), i < lo -> xs[i] < j) -> (∀ i (h : i < xs.size), hi <= i -> j <= xs[i]) -> IsBelow xs j (SetTable.below.go xs j fuel lo hi)
 | 0, lo, hi, h1, h2, h3, ha, hb => by
  have : lo = hi := by omega
  subst this
  exact ⟨h2, ha, hb⟩
 | fuel + 1, lo, hi, h1, h2, h3, ha, hb => by
  unfold SetTable.below.go
  by_cases q : lo < hi
  ·rw [if_pos q]
   dsimp only
   have hm : (lo + hi) / 2 < xs.size := by omega
   have e : xs.getD ((lo + hi) / 2) j = xs[(lo + hi) / 2] := by simp [Array.getD, hm]
   rw [e]
   by_cases z : xs[(lo + hi) / 2] < j
   ·rw [if_pos z]
    refine below_go hu j fuel _ hi (by omega) h2 (by omega) (fun i h hi' => ?_) hb
    rcases Nat.lt_or_ge i ((lo + hi) / 2) with y | y
    ·exact Nat.lt_trans (hu.lt y hm) z
    ·have : i = (lo + hi) / 2 := by omega
     subst this; exact z
   ·rw [if_neg z]
    refine below_go hu j fuel lo _ (by omega) (by omega) (by omega) ha fun i h hi' => ?_
    rcases Nat.lt_or_ge ((lo + hi) / 2) i with y | y
    ·exact Nat.le_trans (by omega) (Nat.le_of_lt (hu.lt y h))
    ·have : i = (lo + hi) / 2 := by omega
     subst this; omega
  ·rw [if_neg q]
   have : lo = hi := by omega
   subst this
   exact ⟨h2, ha, hb⟩
theorem below_is {xs : Array Nat} (hu : Up xs) (j : Nat) : IsBelow xs j (SetTable.below xs j) := below_go hu j xs.size 0 xs.size (Nat.zero_le _) (Nat.le_refl _) (by omega) (fun i h z => by omega) fun i h z => by omega
theorem IsBelow.uniq {xs : Array Nat} {j b c : Nat} (h : IsBelow xs j b) (k : IsBelow xs j c) : b = c := by
 rcases Nat.lt_trichotomy b c with z | z | z
 ·have h1 := h.2.2 b (by have := k.1; omega) (Nat.le_refl _)
  have h2 := k.2.1 b (by have := k.1; omega) z
  omega
 ·exact z
 ·have h1 := k.2.2 c (by have := h.1; omega) (Nat.le_refl _)
  have h2 := h.2.1 c (by have := h.1; omega) z
  omega
theorem below_zero {xs : Array Nat} (hu : Up xs) : SetTable.below xs 0 = 0 := (below_is hu 0).uniq ⟨Nat.zero_le _, fun i h z => by omega, fun i h z => Nat.zero_le _⟩
theorem below_next {xs : Array Nat} (hu : Up xs) {i : Nat} (hi : i < xs.size) : SetTable.below xs (xs[i] + 1) = i + 1 := (below_is hu _).uniq ⟨by omega, fun k h z => by
 rcases Nat.lt_or_ge k i with y | y
 ·have := hu.lt y hi; omega
 ·have : k = i := by omega
  subst this; omega, fun k h z => by
 have := hu.lt (show i < k by omega) h
 omega⟩
theorem insert_up {xs : Array Nat} (hu : Up xs) {j : Nat} (hn : xs[SetTable.below xs j]? ≠ some j) : Up (SetTable.insertAt xs (SetTable.below xs j) j) := by
 have hb := below_is hu j
 generalize SetTable.below xs j = b at *
 unfold Up
 rw [SetTable.toList_insertAt, pairwise_append]
 obtain ⟨h1, h2, h3⟩ := hb
 refine ⟨List.Pairwise.sublist (take_sublist _ _) hu, List.pairwise_cons.mpr ⟨fun x hx => ?_, List.Pairwise.sublist (drop_sublist _ _) hu⟩, fun x hx y hy => ?_⟩
 ·obtain ⟨i, hi, rfl⟩ := getElem_of_mem hx
  rw [length_drop, Array.length_toList] at hi
  rw [getElem_drop, Array.getElem_toList]
  have := h3 (b + i) (by omega) (by omega)
  rcases Nat.lt_or_ge j (xs[b + i]'(by omega)) with z | z
  ·exact z
  ·exfalso
   have e : xs[b + i]'(by omega) = j := by omega
   have hb0 : b < xs.size := by omega
   rcases Nat.eq_zero_or_pos i with rfl | hi0
   ·exact hn (by rw [Array.getElem?_eq_getElem hb0]; exact congrArg some e)
   ·have h4 := h3 b hb0 (Nat.le_refl _)
    have h5 := hu.lt (show b < b + i by omega) (by omega)
    omega
 ·obtain ⟨i, hi, rfl⟩ := getElem_of_mem hx
  rw [length_take, Array.length_toList] at hi
  rw [getElem_take, Array.getElem_toList]
  have hx2 := h2 i (by omega) (by omega)
  rcases List.mem_cons.mp hy with rfl | hy
  ·exact hx2
  ·obtain ⟨k, hk, rfl⟩ := getElem_of_mem hy
   rw [length_drop, Array.length_toList] at hk
   rw [getElem_drop, Array.getElem_toList]
   exact hu.lt (by omega) (by omega)
def GT (led : Bool) (t : SetTable) : Prop := t.led = led /\ (t.plain = true -> Up t.place)
theorem slot_free {t : SetTable} {j : Nat} (h : t.slot j = .empty \/ t.slot j = .dummy) : t.place[SetTable.below t.place j]? ≠ some j := by
 unfold SetTable.slot at h
 dsimp only at h
 intro z
 rw [z] at h
 simp at h
theorem probe_free {t : SetTable} {f : Nat -> Int} {h : Int} : ∀ (fuel : Nat) (p : SetTable.Probe), (∀ d, p.dummy = some d -> t.place[SetTable.below t.place d]? ≠ some d) -> ∀ j d, SetTable.probe.go t f h fuel p = some (.empty j d) -> t.place[SetTable.below t.place (d.getD j)]? ≠ some (d.getD j)
 | 0, p, _, j, d, e => by cases e
 | fuel + 1, p, hd, j, d, e => by
  unfold SetTable.probe.go at e
  have adv : ∀ q : SetTable.Probe, (t.advance q).dummy = q.dummy := fun q => by
   unfold SetTable.advance
   split <;> rfl
  split at e
  ·rename_i hs
   cases e
   cases hq : p.dummy with
   | none => exact slot_free (.inl hs)
   | some d => exact hd d hq
  ·rename_i hs
   refine probe_free fuel _ (fun d' hd' => ?_) j d e
   rw [adv] at hd'
   cases hd'
   exact slot_free (.inr hs)
  ·split at e
   ·cases e
   ·exact probe_free fuel _ (fun d' hd' => hd d' (by rw [adv] at hd'; exact hd')) j d e
theorem layNew_good {led : Bool} {t : SetTable} (g : GT led t) (es : Array (Int × Value)) (h : Int) (x : Value) : GT led (layNew t es h x).2.1 := by
 have st : ∀ (t : SetTable) n, t.led = led -> GT led (t.standIn n) := fun t n hl => ⟨hl, fun z => by cases z⟩
 unfold layNew
 split
 ·rename_i slot wd hf
  dsimp only
  unfold SetTable.orStandIn
  have hl : (t.put slot).1.led = led := g.1
  split
  ·refine ⟨hl, fun hp => ?_⟩
   have hu : Up t.place := g.2 hp
   refine insert_up hu ?_
   unfold SetTable.freeSlot at hf
   split at hf
   ·rename_i j d hpr
    cases hf
    exact probe_free _ _ (fun d' hd' => by unfold SetTable.probeStart at hd'; cases hd') j d hpr
   ·cases hf
  ·exact st _ _ hl
 ·exact st _ _ g.1
theorem relayAll_good {led : Bool} {t : SetTable} (g : GT led t) (es : Array (Int × Value)) (wanted : Nat) : GT led (relayAll t es wanted).2.1 := by
 have st : ∀ n, GT led (t.standIn n) := fun n => ⟨g.1, fun z => by cases z⟩
 unfold relayAll
 split
 ·rename_i t' order hr
  dsimp only
  split
  ·unfold SetTable.relaid SetTable.laid at hr
   cases hc : SetTable.layClean (SetTable.sizeAbove wanted - 1) (es.map (·.1)) with
   | none => rw [hc] at hr; cases hr
   | some owner =>
    rw [hc] at hr
    cases hr
    refine ⟨g.1, fun _ => ?_⟩
    unfold Up
    dsimp only
    have key : ∀ (n : Nat) (f : Nat -> Option Nat), (((List.range n).filterMap fun j => (f j).map (j, ·)).map (·.1)).Pairwise (· < ·) := fun n f => by
     rw [map_filterMap]
     refine List.Pairwise.filterMap (R := (· < ·)) _ (fun a b hab x hx y hy => ?_) pairwise_lt_range
     cases hfa : f a with
     | none => rw [hfa] at hx; cases hx
     | some u =>
      cases hfb : f b with
      | none => rw [hfb] at hy; cases hy
      | some v =>
       rw [hfa] at hx; rw [hfb] at hy
       cases hx; cases hy
       exact hab
    exact key _ _
  ·exact st _
 ·exact st _
theorem erase_perm {α : Type} (l : List α) (i : Nat) (h : i < l.length) : (l[i] :: l.eraseIdx i).Perm l := by
 rw [eraseIdx_eq_take_drop_succ]
 have e : l = l.take i ++ l[i] :: l.drop (i + 1) := by rw [getElem_cons_drop, take_append_drop]
 exact (List.perm_middle.symm).trans (by rw [<- e])
theorem pick_go {α : Type} (next : Nat -> Nat) : ∀ (fuel k : Nat) (left : List α) (out : Array α), left.length = fuel -> (pickOrder.go next fuel k left out).toList.Perm (out.toList ++ left)
 | 0, k, left, out, h => by
  rw [List.length_eq_zero_iff.mp h, append_nil]; exact .refl _
 | fuel + 1, k, left, out, h => by
  unfold pickOrder.go
  have hl : next k % left.length < left.length := Nat.mod_lt _ (by omega)
  rw [getElem?_eq_getElem hl]
  dsimp only
  refine (pick_go next fuel (k + 1) _ _ (by rw [length_eraseIdx_of_lt hl]; omega)).trans ?_
  rw [Array.toList_push, append_assoc]
  exact List.Perm.append_left _ (erase_perm left _ hl)
theorem pick_perm {α : Type} (next : Nat -> Nat) (xs : Array α) : (pickOrder next xs).toList.Perm xs.toList := by
 unfold pickOrder
 exact (pick_go next xs.size 0 xs.toList #[] (by simp)).trans (by simp)
end
section
section
variable {prog : Program} {w : World} {A : Around} {E : Value -> Shared -> Prop} {s : Shared}
abbrev KI (prog : Program) (w : World) := intKind prog w
structure SG (prog : Program) (w : World) (h : Heap) (a : Addr) (S : Int -> Bool) (n : Nat) (led : Bool) (o : Obj) (fs : Array (Int × Value)) (ep : Nat) (u : SetTable) : Prop where
 at_ : h.get? a = some o
 ex : o.ExactSet
 dat : o.data = .set fs ep u
 el : ElemsOf (KI prog w) fs.toList
 mem : ∀ k, S k = true ↔ ∃ e ∈ fs.toList, (KI prog w).is k e.2 = true
 small : fs.size < scanBound
 fit : u.fits fs.size = true
 many : fs.size = n
 good : GT led u
def SetG (prog : Program) (w : World) (h : Heap) (a : Addr) (S : Int -> Bool) (n : Nat) (led : Bool) : Prop := ∃ o fs ep u, SG prog w h a S n led o fs ep u
theorem SetG.congr {h : Heap} {a : Addr} {S S' : Int -> Bool} {n n' : Nat} {led : Bool} (g : SetG prog w h a S n led) (e : ∀ k, S k = S' k) (en : n = n') : SetG prog w h a S' n' led := by
 have : S = S' := funext e
 subst this; subst en; exact g
theorem SetG.stay {h h' : Heap} {a : Addr} {S : Int -> Bool} {n : Nat} {led : Bool} (g : SetG prog w h a S n led) (k : ∀ o, h.get? a = some o -> h'.get? a = some o) : SetG prog w h' a S n led := by
 obtain ⟨o, fs, ep, u, g⟩ := g
 exact ⟨o, fs, ep, u, k o g.at_, g.ex, g.dat, g.el, g.mem, g.small, g.fit, g.many, g.good⟩
theorem sg_put {h : Heap} {a : Addr} {o : Obj} {fs gs : Array (Int × Value)} {ep : Nat} {u v : SetTable} {S' : Int -> Bool} {led : Bool} (ho : h.get? a = some o) (hex : o.ExactSet) (hd : o.data = .set fs ep u) (el : ElemsOf (KI prog w) gs.toList) (mem : ∀ k, S' k = true ↔ ∃ e ∈ gs.toList, (KI prog w).is k e.2 = true) (small : gs.size < scanBound) (fit : v.fits gs.size = true) (gt : GT led v) :
  SG prog w (h.update a (Obj.putSet gs v)) a S' gs.size led { o with data := .set gs (ep + 1) v } gs (ep + 1) v :=
 ⟨(SetOf_store (knd := KI prog w) ho hex hd el mem small fit).1, hex, rfl, el, mem, small, fit, rfl, gt⟩
theorem tailG {g : Bool -> Sem Unit} (pass : ∀ (b : Bool) (s1 : Shared) (R : Unit -> Shared -> Prop), R () s1 -> wpAny (model prog w) A (g b) R E s1)
  {a : Addr} {o : Obj} {fs gs : Array (Int × Value)} {ep : Nat} {u v : SetTable} {S' : Int -> Bool} {led : Bool} (ho : s.heap.get? a = some o) (hex : o.ExactSet) (hd : o.data = .set fs ep u) (el : ElemsOf (KI prog w) gs.toList) (mem : ∀ k, S' k = true ↔ ∃ e ∈ gs.toList, (KI prog w).is k e.2 = true) (small : gs.size < scanBound) (fit : v.fits gs.size = true) (gt : GT led v)
  {wd : Bool} {R : Option Bool -> Shared -> Prop} (fin : ∀ h', Heap.SameBut a s.heap h' -> SetG prog w h' a S' gs.size led -> R (some true) { s with heap := h' }) :
  wpAny (model prog w) A (do
   storeSet a gs v
   if (!wd && v.tooFull) = true then do
     g (relayAll v gs (SetTable.grown gs.size)).2.2
     storeSet a (relayAll v gs (SetTable.grown gs.size)).1 (relayAll v gs (SetTable.grown gs.size)).2.1
     pure (some true)
    else pure (some true)) R E s := by
 have b1 := Heap.SameBut.update s.heap a (Obj.putSet gs v)
 have g1 := sg_put (prog := prog) (w := w) ho hex hd el mem small fit gt
 refine wpAny_bind (wpAny_storeSet_of ho hd ?_ (fits_of_scanBound small))
 split
 ·have pp := relayAll_perm v gs (SetTable.grown gs.size)
  have pf := relayAll_fits v gs (SetTable.grown gs.size)
  have pg := relayAll_good gt gs (SetTable.grown gs.size)
  revert pp pf pg
  generalize relayAll v gs (SetTable.grown gs.size) = rr
  obtain ⟨ks, x, gave⟩ := rr
  intro pp pf pg
  have zz : ks.size = gs.size := by
   have := pp.length_eq
   simpa using this
  refine wpAny_bind (pass _ _ _ ?_)
  have m2 : ∀ k, S' k = true ↔ ∃ e ∈ ks.toList, (KI prog w).is k e.2 = true := fun k => (mem k).trans ⟨fun ⟨e, he, q⟩ => ⟨e, pp.mem_iff.mpr he, q⟩, fun ⟨e, he, q⟩ => ⟨e, pp.mem_iff.mp he, q⟩⟩
  have sm : ks.size < scanBound := zz ▸ small
  refine wpAny_bind (wpAny_storeSet_of g1.at_ rfl ?_ (fits_of_scanBound sm))
  have g2 := sg_put (prog := prog) (w := w) g1.at_ g1.ex rfl (el.perm pp) m2 sm pf pg
  rw [zz] at g2
  exact wpAny_pure (fin _ (b1.trans (Heap.SameBut.update _ a _)) ⟨_, _, _, _, g2⟩)
 ·exact wpAny_pure (fin _ b1 ⟨_, _, _, _, g1⟩)
theorem addG {a : Addr} {S : Int -> Bool} {n : Nat} {led : Bool} {k : Int} {x : Value} {Q : Bool -> Shared -> Prop} (hk : (KI prog w).is k x = true) (hx : x.scannable = true) (hS : SetG prog w s.heap a S n led) (room : n + 1 < scanBound)
  (fin : ∀ h', Heap.SameBut a s.heap h' -> SetG prog w h' a (fun j => S j || decide (j = k)) (if S k then n else n + 1) led -> Q (!S k) { s with heap := h' }) :
  wpAny (model prog w) A (setAddHashed a x ((KI prog w).hash k)) Q E s := by
 obtain ⟨o, fs, ep, u, G⟩ := hS
 have hn := G.many
 unfold setAddHashed setAddHashedIn
 refine wpAny_holding (wpAny_bind (wpAny_setState_of G.at_ G.dat G.fit ?_))
 dsimp only
 rw [byScan_of hx G.small G.el]
 simp only [↓reduceIte]
 unfold setAddByScan
 refine wpAny_bind ?_
 refine wpAny_bind (wpAny_rule ?_)
 refine wpAny_bind (wpAny_setScan_of hk G.at_ G.dat G.fit G.el ?_)
 cases hr : List.findIdx? (fun e => (KI prog w).is k e.2) fs.toList with
 | some j =>
  dsimp only
  obtain ⟨hj, hp, _⟩ := List.findIdx?_eq_some_iff_getElem.mp hr
  have hSk : S k = true := (G.mem k).mpr ⟨_, getElem_mem hj, hp⟩
  have := fin s.heap (Heap.SameBut.refl a s.heap) (SetG.congr ⟨o, fs, ep, u, G⟩ (fun i => by
   by_cases z : i = k
   ·subst z; rw [hSk]; simp
   ·simp [z]) (by rw [if_pos hSk]))
  rw [hSk] at this
  exact wpAny_pure (wpAny_pure this)
 | none =>
  dsimp only
  have hSk : S k = false := by
   cases z : S k with
   | false => rfl
   | true =>
    obtain ⟨e, he, hp⟩ := (G.mem k).mp z
    have := List.findIdx?_eq_none_iff.mp hr e he
    rw [hp] at this; cases this
  have pass : ∀ (b : Bool) {s1 : Shared} {R : Unit -> Shared -> Prop}, R () s1 -> wpAny (model prog w) A (match b with | true => rule "set.scan.the-table-gave-way" | false => pure ()) R E s1 := fun b s1 R hq => by
   cases b
   ·exact wpAny_pure hq
   ·exact wpAny_rule hq
  have lp := layNew_perm u fs ((KI prog w).hash k) x
  have lf := layNew_fits u fs ((KI prog w).hash k) x
  have lg := layNew_good G.good fs ((KI prog w).hash k) x
  revert lp lf lg
  generalize layNew u fs ((KI prog w).hash k) x = ll
  obtain ⟨gs, v, wd, gave⟩ := ll
  intro lp lf lg
  dsimp only at lp lf lg ⊢
  rw [Array.toList_push] at lp
  have el : ElemsOf (KI prog w) gs.toList := (G.el.push hk hx).perm lp
  have mm := fun j => mem_push_iff hk G.mem lp j
  have zz : gs.size = n + 1 := by
   have := lp.length_eq
   simp only [Array.length_toList, length_append, length_cons, length_nil] at this
   omega
  have sm : gs.size < scanBound := by omega
  refine wpAny_bind (pass _ ?_)
  have last : ∀ h', Heap.SameBut a s.heap h' -> SetG prog w h' a (fun j => S j || decide (j = k)) gs.size led -> Q true { s with heap := h' } := fun h' b g => by
   have := fin h' b
   rw [hSk] at this
   exact this (g.congr (fun _ => rfl) zz)
  split
  ·refine wpAny_bind ?_
   rw [hashByValue_scannable 8 hx]
   refine wpAny_pure ?_
   refine tailG (fun b s1 R hq => by cases b; exact wpAny_pure hq; exact wpAny_rule hq) G.at_ G.ex G.dat el mm sm ?_ ?_ fun h' b g => wpAny_pure (last h' b g)
   ·split
    ·exact lf
    ·exact SetTable.fits_plain_off lf
   ·split
    ·exact lg
    ·exact ⟨lg.1, fun z => by cases z⟩
  ·refine wpAny_bind (wpAny_pure ?_)
   simp only [↓reduceIte]
   exact tailG (fun b s1 R hq => by cases b; exact wpAny_pure hq; exact wpAny_rule hq) G.at_ G.ex G.dat el mm sm lf lg fun h' b g => wpAny_pure (last h' b g)
end
end
section
section
variable {prog : Program} {w : World} {A : Around} {E : Value -> Shared -> Prop} {s : Shared}
def inL (val : Nat -> Int) (i : Nat) : Int -> Bool := fun j => (firstMet val i).any (· == j)
section
variable {R : Result -> Shared -> Prop} {I : Addr} {fp wr : List Addr} {Gn : Array GenState -> Array GenState -> Prop} {n : Nat} {P : Nat -> Value -> Prop} {St : Nat -> Shared -> Prop}
theorem loopG (W : WalksS prog w A.in1 I fp wr Gn n P St) (a : Addr) (off : a ∉ fp) (val : Nat -> Int) (hv : ∀ i v, P i v -> ∃ t, v = .int (val i) t) (small : n + 1 < scanBound) (led : Bool) :
  ∀ (r i : Nat) (s : Shared), n - i = r -> i <= n -> St i s -> SetG prog w s.heap a (inL val i) (firstMet val i).length led ->
   (∀ s', Moved (a :: wr) Gn s s' -> SetG prog w s'.heap a (inL val n) (firstMet val n).length led -> R (.ok (.ret .none)) s') ->
   codeAny (model prog w) A (.builtin "set.update.loop" ⟨[.ref a, .ref I], []⟩) R s := by
 have offw : a ∉ wr := fun z => off (W.sub _ z)
 have up : ∀ b ∈ wr, b ∈ a :: wr := fun b z => mem_cons_of_mem _ z
 intro r
 induction r with
 | zero =>
  intro i s hr hi st g fin
  obtain rfl : i = n := by omega
  refine codeAny_builtin F.entry_set_update_loop ?_
  rw [Around.under_plainId F.plain_set_update_loop _]
  show wpAny _ A.in1 (pyNext (.ref I) >>= _) _ _ s
  refine wpAny_bind (W.done s _ _ st fun s1 mv => ?_)
  exact wpAny_pure (fin s1 (mv.mono up) (g.stay fun o e => mv.heap a o offw e))
 | succ r ih =>
  intro i s hr hi st g fin
  have lt : i < n := by omega
  refine codeAny_builtin F.entry_set_update_loop ?_
  rw [Around.under_plainId F.plain_set_update_loop _]
  show wpAny _ A.in1 (pyNext (.ref I) >>= _) _ _ s
  refine wpAny_bind (W.item i s _ _ lt st fun v s1 pv st1 mv => ?_)
  obtain ⟨t, rfl⟩ := hv i v pv
  have g1 := g.stay fun o e => mv.heap a o offw e
  show wpAny _ A.in1 (holding [Value.int (val i) t] (setAdd a (.int (val i) t)) >>= _) _ _ s1
  refine wpAny_bind (wpAny_holding ?_)
  unfold setAdd
  refine wpAny_holding ?_
  refine wpAny_bind ((intKind prog w).pyHash (k := val i) (intKind_is _ _ _ _) ?_)
  refine addG (s := { s1 with toks := s1.toks + 1 }) (intKind_is _ _ _ _) rfl g1 (by have := firstMet_length_le val i; omega) fun h2 sb g2 => ?_
  have g3 : SetG prog w h2 a (inL val (i + 1)) (firstMet val (i + 1)).length led := g2.congr (fun j => by unfold inL; rw [firstMet_succ, step_any]) (by rw [firstMet_succ, step_length]; rfl)
  refine wpAny_pure ⟨plainId_quiet F.plain_set_update_loop _, ih (i + 1) _ (by omega) lt (W.frame _ s1 _ _ st1 (Nat.le_succ _) fun b hb o e => ?_) g3 fun s2 mv2 g4 => ?_⟩
  ·rw [sb.2 b (fun z : b = a => off (by rw [<- z]; exact hb))]; exact e
  ·refine fin s2 (Moved.trans W.gtrans ((mv.mono up).then_heap (Nat.le_succ _) fun b o hb e => ?_) mv2) g4
   rw [sb.2 b (fun z : b = a => hb (by rw [z]; exact mem_cons_self))]; exact e
end
def ledOf (w : World) : Bool := !(w.params.followText "set-order")
def setObj0 (w : World) : Obj := { cls := .type "set", dict := none, data := .set #[] 0 (.fresh 0 0 (ledOf w)) }
theorem code_newG (a : Value) {Q : Value -> Shared -> Prop} (h : Q (.ref s.heap.objs.size) { s with heap := s.heap.push (setObj0 w) }) :
  codeAny (model prog w) A (.call (.builtin "set.__new__") ⟨[.type "set", a], []⟩) (wants Q E) s := by
 refine codeAny_of_tree ?_
 show wpAny _ A.in1 (do checkBuiltinCall "set.__new__" ⟨[.type "set", a], []⟩; again (.builtin "set.__new__" ⟨[.type "set", a], []⟩)) _ _ s
 refine wpAny_bind (wpAny_of_eq (PySem.F.newCall_set_1 a) (wpAny_pure ⟨plainId_quiet PySem.F.plain_set_new _, codeAny_builtin PySem.F.entry_set_new ?_⟩))
 rw [Around.under_plainId PySem.F.plain_set_new _]
 unfold Builtin.«set.__new__» Builtin.Frozenset.newClass
 have hsub := PySem.sub_set_self
 obtain ⟨hp, g, d, tk, os⟩ := s
 dsimp only
 wp_walk
 refine wpAny_askSetting (wpAny_pure ?_)
 dsimp only
 simp only [newObj]
 refine wpAny_bind (wpAny_alloc (wpAny_pure ?_))
 exact wpAny_pure h
theorem setObj0_G {h : Heap} {a : Addr} (ho : h.get? a = some (setObj0 w)) : SetG prog w h a (fun _ => false) 0 (ledOf w) :=
 ⟨setObj0 w, #[], 0, .fresh 0 0 (ledOf w), ho, ⟨rfl, rfl, rfl⟩, rfl, fun e z => by simp at z, fun k => by simp, by decide, by rfl, rfl, rfl, fun _ => List.Pairwise.nil⟩
set_option maxHeartbeats 3200000 in
theorem callSetG {l : Addr} {items : Array Value} {ns : List Int} {Q : Value -> Shared -> Prop} (hh : A.handled = none) (hl : s.heap.IsList l items) (hi : IntsAre items.toList ns) (small : items.size + 1 < scanBound)
  (fin : ∀ (h' : Heap) (tk : Nat), SetG prog w h' s.heap.objs.size (inL (fun i => ns.getD i 0) items.size) (firstMet (fun i => ns.getD i 0) items.size).length (ledOf w) ->
   (∀ b o, b < s.heap.objs.size -> s.heap.get? b = some o -> h'.get? b = some o) -> Q (.ref s.heap.objs.size) { s with heap := h', toks := tk }) :
  wpAny (model prog w) A (call (.type "set") [.ref l]) Q E s := by
 obtain ⟨c, tl, hmro⟩ := PySem.F.called_set.mro
 have hmade := PySem.F.called_set.made
 have hsub := PySem.F.called_set.sub
 refine wpAny_call (codeAny_of_tree ?_)
 show wpAny _ _ (callAny (.type "set") _) _ _ _
 refine wpAny_pure ⟨Code.quiet_builtin _ (by decide +kernel), codeAny_builtin PySem.F.entry_type_call ?_⟩
 rw [Around.under_plain (weight_type_call_type "set" [.ref l] []) rfl]
 have h1 := PySem.F.called_set.notType
 have h2 := PySem.F.called_set.canCreate
 have hct := PySem.F.typeCall_set_1 (.ref l)
 repeat (any_goals (first | assumption | wp_step))
 refine codeAny_mono (code_newG (.ref l) (E := E) (Q := fun obj s1 => obj = .ref s.heap.objs.size /\ s1 = { s with heap := s.heap.push (setObj0 w) }) ⟨rfl, rfl⟩) fun r s1 hr => ?_
 cases r with
 | error e => exact hr
 | ok fl =>
  cases fl with
  | ret obj =>
   obtain ⟨rfl, rfl⟩ := hr
   have hS : (s.heap.push (setObj0 w)).get? s.heap.objs.size = some (setObj0 w) := Heap.get?_push_size _ rfl
   have hT : Shared.TypeIs { s with heap := s.heap.push (setObj0 w) } (.ref s.heap.objs.size) "set" := ⟨_, hS, rfl⟩
   have hli := PySem.F.called_set.init.lookup
   have hbi := PySem.F.called_set.init.bind (.ref s.heap.objs.size)
   repeat (any_goals (first | assumption | wp_step))
   refine codeAny_mono (codeAny_call_builtin (R := wants (fun r s2 => r = .none /\ ∃ h' tk, s2 = { s with heap := h', toks := tk } /\ SetG prog w h' s.heap.objs.size (inL (fun i => ns.getD i 0) items.size) (firstMet (fun i => ns.getD i 0) items.size).length (ledOf w) /\
     (∀ b o, b < s.heap.objs.size -> s.heap.get? b = some o -> h'.get? b = some o)) E) PySem.F.called_set.init.plain PySem.F.entry_set_init (PySem.check_set_init_1 hT ?_)) fun r2 s2 hr2 => ?_
   ·obtain ⟨ol, hol, hcl, nl, hdl⟩ := hl
    obtain ⟨ocls, odict, odata, oslots⟩ := ol
    simp only at hcl hdl
    subst hcl; subst hdl
    have hol' : (s.heap.push (setObj0 w)).get? l = some { cls := .type "list", dict := odict, data := .seq items nl, slots := oslots } := Heap.get?_push_of_some _ hol
    have hsls := PySem.F.sub_list_set
    have hslf := PySem.F.sub_list_frozenset
    have hne : (Value.type "list" == Value.type "dict") = false := by decide
    have hl1 : (s.heap.push (setObj0 w)).IsList l items := ⟨_, hol', rfl, nl, rfl⟩
    unfold Builtin.«set.__init__» noKeywords Builtin.Frozenset.updateFrom
    generalize hPI : pyIter = PI
    wp_walk
    subst hPI
    refine wpAny_pyIter_list hl1 ?_
    refine wpAny_bind (wpAny_runValue ?_)
    have hlS : l < s.heap.objs.size := Heap.lt_size hol
    have hh3 : A.in1.in1.in1.handled = none := by simp [hh]
    have hsz1 : (s.heap.push (setObj0 w)).objs.size = s.heap.objs.size + 1 := by rw [Heap.size_push]
    have hneI : l ≠ (s.heap.push (setObj0 w)).objs.size := by rw [hsz1]; exact Nat.ne_of_lt (Nat.lt_succ_of_lt hlS)
    have hSf : s.heap.objs.size ∉ [(s.heap.push (setObj0 w)).objs.size, l] := by
     simp only [mem_cons, not_mem_nil, or_false, not_or]
     exact ⟨by rw [hsz1]; exact Nat.ne_of_lt (Nat.lt_succ_self _), Nat.ne_of_gt hlS⟩
    refine loopG ((Walks.list hh3 _ l hneI items).toS) s.heap.objs.size hSf (fun i => ns.getD i 0) (fun i v hv => IntsAre.int_at hi i v (by rw [Array.getElem?_toList]; exact hv)) small (ledOf w) (items.size - 0) 0 _ (by omega) (Nat.zero_le _) ⟨⟨_, Heap.get?_push_size _ rfl, rfl, rfl⟩, (hl1.push _)⟩ ?g0 ?gR
    case g0 => exact (setObj0_G (Heap.get?_push_of_some _ hS)).congr (fun _ => rfl) rfl
    case gR =>
     intro s' mv g
     obtain ⟨h', g', d', tk', os'⟩ := s'
     have eg : g' = s.gens := mv.gens
     have ed : d' = s.drawn := mv.drawn
     have eo : os' = s.os := mv.os
     subst eg; subst ed; subst eo
     show wpAny _ _ _ _ _ _
     refine wpAny_pure ?_
     show wpAny _ _ (ret Value.none) _ _ _
     refine wpAny_pure ⟨rfl, h', tk', rfl, g, fun b o hb e => ?_⟩
     exact mv.heap b o (by simp only [mem_cons, not_mem_nil, or_false, not_or]; exact ⟨Nat.ne_of_lt hb, by rw [Heap.size_push]; exact Nat.ne_of_lt (Nat.lt_succ_of_lt hb)⟩) (Heap.get?_push_of_some _ (Heap.get?_push_of_some _ e))
   ·cases r2 with
    | error e => exact hr2
    | ok fl2 =>
     cases fl2 with
     | ret r =>
      obtain ⟨rfl, h', tk, rfl, g, kk⟩ := hr2
      repeat (any_goals (first | assumption | wp_step))
      exact fin _ _ g kk
     | _ => exact hr2.elim
  | _ => exact hr.elim
end
end
section
theorem slot_si_next : Slot "set_iterator" "__next__" "set_iterator.__next__" :=
 .of (owner := "set_iterator") (n := "__next__") (by rw [typeLookup_type, builtinLookup_eq_fast]; kernel_rfl) (by decide +kernel) (by decide +kernel) (by decide +kernel)
  (by first | exact .inl (by decide +kernel) | exact .inr (by decide +kernel)) (by rw [isSubtype_type]; kernel_rfl)
theorem entry_si_next : entryFor table "set_iterator.__next__" = some Builtin.«set_iterator.__next__» := entryFor_of_tree (by kernel_rfl)
theorem args_si_next (a : Value) : argsOk "set_iterator.__next__" ⟨[a], []⟩ := by unfold argsOk; kernel_rfl
theorem entry_set_iter : entryFor table "set.__iter__" = some Builtin.«frozenset.__iter__» := entryFor_alias (id' := "frozenset.__iter__") (by kernel_rfl) rfl (by decide +kernel) (by kernel_rfl)
section
variable {prog : Program} {w : World} {A : Around} {E : Value -> Shared -> Prop} {s : Shared}
def IsSI (h : Heap) (it : Addr) (first : Value) (i : Nat) (a : Addr) (n ep : Nat) : Prop := ∃ o, h.get? it = some o /\ o.cls = .type "set_iterator" /\ o.data = .fields #[first, .int i 0, .ref a, .int n 0, .int ep 0]
theorem IsSI.typeIs {it : Addr} {first : Value} {i : Nat} {a : Addr} {n ep : Nat} (x : IsSI s.heap it first i a n ep) : s.TypeIs (.ref it) "set_iterator" := let ⟨o, ho, hc, _⟩ := x; ⟨o, ho, hc⟩
theorem next_int {it a : Addr} {slot : Int} {t0 i n ep nx : Nat} {x : Value} {S : Int -> Bool} {led : Bool} {o : Obj} {fs : Array (Int × Value)} {u : SetTable} {Q : Option Value -> Shared -> Prop} (hit : IsSI s.heap it (.int slot t0) i a n ep) (G : SG prog w s.heap a S n led o fs ep u)
  (hn : ∀ (A : Around) (Q : Option (Value × Nat) -> Shared -> Prop) (E : Value -> Shared -> Prop), Q (some (x, nx)) s -> wpAny (model prog w) A (setNext a slot.toNat i ep) Q E s)
  (hQ : ∀ h', IsSI h' it (.int nx 0) (i + 1) a n ep -> Heap.SameBut it s.heap h' -> Q (some x) { s with heap := h' }) :
  wpAny (model prog w) A (pyNext (.ref it)) Q E s := by
 obtain ⟨oi, ho, hc, hd⟩ := id hit
 unfold pyNext
 refine wpAny_bind (wpAny_attempt (wpAny_callSpecial?_slot (name := Str.ofString "__next__") hit.typeIs slot_si_next
  (wpAny_call_entry slot_si_next hit.typeIs entry_si_next ?_ (args_si_next _))))
 show wpAny _ _ (fieldsOf (.ref it) >>= _) _ _ s
 refine wpAny_bind (wpAny_fieldsOf ho hd ?_)
 show wpAny _ _ (setEntries a >>= _) _ _ s
 refine wpAny_bind (wpAny_setEntries_of G.at_ G.dat G.fit ?_)
 rw [if_neg (by rw [G.many]; simp)]
 dsimp only
 refine wpAny_bind ?_
 show wpAny _ _ (setNext a slot.toNat (i : Int).toNat (ep : Int).toNat) _ _ s
 rw [Int.toNat_natCast, Int.toNat_natCast]
 refine hn _ _ _ ?_
 dsimp only
 refine wpAny_bind (wpAny_setField ho hd (by simp) ?_)
 have g1 := Heap.get?_update_self (Obj.mapFields (·.setIfInBounds 0 (rawInt nx))) ho (Obj.isFreed_of_fields (Obj.data_mapFields hd _))
 have d1 := Obj.data_mapFields hd (·.setIfInBounds 0 (rawInt nx))
 refine wpAny_bind (wpAny_setField g1 d1 (by simp) (wpAny_pure ⟨x, rfl, wpAny_pure (hQ _ ?_ ((Heap.SameBut.update ..).trans (Heap.SameBut.update ..)))⟩))
 refine ⟨_, Heap.get?_update_self _ g1 (Obj.isFreed_of_fields (Obj.data_mapFields d1 _)), (Obj.cls_mapFields ..).trans ((Obj.cls_mapFields ..).trans hc), ?_⟩
 rw [Obj.data_mapFields d1]
 simp [rawInt]
theorem next_intE {it a : Addr} {slot : Int} {t0 i n ep : Nat} {S : Int -> Bool} {led : Bool} {o : Obj} {fs : Array (Int × Value)} {u : SetTable} {Q : Option Value -> Shared -> Prop} (hh : A.handled = none) (hit : IsSI s.heap it (.int slot t0) i a n ep) (G : SG prog w s.heap a S n led o fs ep u)
  (hn : ∀ (A : Around) (Q : Option (Value × Nat) -> Shared -> Prop) (E : Value -> Shared -> Prop), Q none s -> wpAny (model prog w) A (setNext a slot.toNat i ep) Q E s)
  (hQ : ∀ h', Heap.ExtBut it s.heap h' -> Q none { s with heap := h' }) :
  wpAny (model prog w) A (pyNext (.ref it)) Q E s := by
 obtain ⟨oi, ho, hc, hd⟩ := id hit
 unfold pyNext
 refine wpAny_bind (wpAny_attempt (wpAny_callSpecial?_slot (name := Str.ofString "__next__") hit.typeIs slot_si_next
  (wpAny_call_entry slot_si_next hit.typeIs entry_si_next ?_ (args_si_next _))))
 show wpAny _ _ (fieldsOf (.ref it) >>= _) _ _ s
 refine wpAny_bind (wpAny_fieldsOf ho hd ?_)
 show wpAny _ _ (setEntries a >>= _) _ _ s
 refine wpAny_bind (wpAny_setEntries_of G.at_ G.dat G.fit ?_)
 rw [if_neg (by rw [G.many]; simp)]
 dsimp only
 refine wpAny_bind ?_
 show wpAny _ _ (setNext a slot.toNat (i : Int).toNat (ep : Int).toNat) _ _ s
 rw [Int.toNat_natCast, Int.toNat_natCast]
 refine hn _ _ _ ?_
 dsimp only
 refine wpAny_bind (wpAny_setField ho hd (by simp) ?_)
 show wpAny _ _ (newExc (.type "StopIteration") [] >>= _) _ _ _
 refine wpAny_bind ?_
 simp only [newExc, newTuple]
 refine wpAny_bind (wpAny_newObj_type ?_ (by size_fits))
 refine wpAny_bind (m := firstArgMember _ _) (wpAny_of_eq (a := Value.none) (by first | rfl | (simp only [firstArgMember]; rfl)) ?_)
 refine wpAny_newObj_type ?_ (by size_fits)
 simp only [raiseNew]
 refine wpAny_bind (wpAny_handled ?_)
 first | rw [show A.in1.handled = none from hh] | rw [hh]
 refine wpAny_bind (wpAny_pure (wpAny_throw ?_))
 refine wpAny_bind (wpAny_isInstance (T := "StopIteration") (b := true) ⟨_, Heap.get?_push_size _ rfl, rfl⟩ isSubtype_stop ?_)
 exact wpAny_pure (hQ _ (((Heap.SameBut.update ..).extBut.push _).push _))
theorem byText_ev {Q : Bool -> Shared -> Prop} (h : Q (w.params.followText "set-order") s) : wpAny (model prog w) A setsByText Q E s := by
 unfold setsByText
 exact wpAny_bind (wpAny_askSetting (wpAny_pure h))
variable {a : Addr} {S : Int -> Bool} {n ep : Nat} {led : Bool} {o : Obj} {fs : Array (Int × Value)} {u : SetTable}
theorem setNext_text (G : SG prog w s.heap a S n led o fs ep u) (ht : w.params.followText "set-order" = true) (slot i : Nat) {Q : Option (Value × Nat) -> Shared -> Prop} (h : Q (((pickOrder (w.params.setOrder a ep) fs)[i]?).map fun e => (e.2, slot)) s) : wpAny (model prog w) A (setNext a slot i ep) Q E s := by
 unfold setNext
 refine wpAny_bind (wpAny_setState_of G.at_ G.dat G.fit ?_)
 dsimp only
 refine wpAny_bind (byText_ev ?_)
 rw [ht]
 simp only [if_true, bne_self_eq_false, Bool.false_eq_true, if_false]
 refine wpAny_bind ?_
 unfold setWalk
 refine wpAny_bind (wpAny_setState_of G.at_ G.dat G.fit ?_)
 dsimp only
 refine wpAny_bind (byText_ev ?_)
 rw [ht]
 simp only [if_true]
 exact wpAny_bind (wpAny_askSetting (wpAny_pure (wpAny_pure h)))
theorem setNext_places (G : SG prog w s.heap a S n led o fs ep u) (ht : w.params.followText "set-order" = false) (hl : led = true) (hp : (!u.plain && decide (fs.size > 1)) = false) (slot i : Nat) {Q : Option (Value × Nat) -> Shared -> Prop}
  (h : Q (match fs[SetTable.below u.place slot]?, u.place[SetTable.below u.place slot]? with | some (_, x), some j => some (x, j + 1) | _, _ => none) s) : wpAny (model prog w) A (setNext a slot i ep) Q E s := by
 unfold setNext
 refine wpAny_bind (wpAny_setState_of G.at_ G.dat G.fit ?_)
 dsimp only
 refine wpAny_bind (byText_ev ?_)
 rw [ht]
 simp only [Bool.false_eq_true, if_false]
 show wpAny _ _ (if (!u.plain && decide (fs.size > 1)) = true then _ else _) _ _ s
 rw [hp]
 simp only [Bool.false_eq_true, if_false]
 show wpAny _ _ ((if (!u.led && !fs.isEmpty) = true then unsupported "set:maker-not-led" else pure ()) >>= _) _ _ s
 rw [G.good.1, hl]
 simp only [Bool.not_true, Bool.false_and, Bool.false_eq_true, if_false]
 exact wpAny_bind (wpAny_pure (wpAny_pure h))
end
end
section
section
variable {prog : Program} {w : World} {A : Around} {E : Value -> Shared -> Prop} {s : Shared}
theorem choose_any {src : Source} {n : Nat} (hn : n ≠ 0) {Q : Nat -> Shared -> Prop} (h : ∀ v, v < n -> Q v { s with drawn := s.drawn.bump src }) : wpAny (model prog w) A (choose src n) Q E s := fun Γ p hΓ => by
 unfold choose
 exact ⟨hn, h _ (Nat.mod_lt _ (Nat.pos_of_ne_zero hn))⟩
theorem drawOrder_any {α : Type} : ∀ (n : Nat) (xs : List α) {s : Shared} {Q : List α -> Shared -> Prop}, xs.length = n -> (∀ ys d, ys.Perm xs -> Q ys { s with drawn := d }) -> wpAny (model prog w) A (drawOrder n xs) Q E s
 | 0, xs, s, Q, h, q => by
  rw [List.length_eq_zero_iff.mp h] at q ⊢
  exact wpAny_pure (q [] s.drawn (.refl _))
 | n + 1, [], s, Q, h, q => by cases h
 | n + 1, x :: xs, s, Q, h, q => by
  show wpAny _ _ (choose .order (x :: xs).length >>= _) _ _ s
  refine wpAny_bind (choose_any (by simp) fun v hv => ?_)
  rw [getElem?_eq_getElem hv]
  dsimp only
  refine wpAny_bind (drawOrder_any n _ (by rw [length_eraseIdx_of_lt hv]; omega) fun ys d hp => ?_)
  exact wpAny_pure (q _ d ((hp.cons _).trans (erase_perm (x :: xs) v hv)))
variable {a : Addr} {S : Int -> Bool} {n ep : Nat} {led : Bool} {o : Obj} {fs : Array (Int × Value)} {u : SetTable}
theorem iter_set (G : SG prog w s.heap a S n led o fs ep u) {Q : Value -> Shared -> Prop}
  (h1 : (w.params.followText "set-order" = true \/ (!u.plain && decide (fs.size > 1)) = false) -> Q (.ref s.heap.objs.size) { s with heap := s.heap.push { cls := .type "set_iterator", data := .fields #[.int 0 0, .int 0 0, .ref a, .int n 0, .int ep 0] } })
  (h2 : ∀ (ys : List Nat) d, ys.Perm (List.range n) -> Q (.ref (s.heap.objs.size + 1)) { s with heap := (s.heap.push (seqObj "tuple" (ys.map fun (i : Nat) => Value.int i 0).toArray 0)).push { cls := .type "set_iterator", data := .fields #[.ref s.heap.objs.size, .int 0 0, .ref a, .int n 0, .int ep 0] }, drawn := d }) :
  wpAny (model prog w) A (pyIter (.ref a)) Q E s := by
 have hT : s.TypeIs (.ref a) "set" := ⟨o, G.at_, G.ex.1⟩
 refine wpAny_pyIter_slot hT PySem.F.slot_set_iter (wpAny_call_entry PySem.F.slot_set_iter hT entry_set_iter ?_ (PySem.F.args_set_iter_1 _))
 show wpAny _ _ (Builtin.Frozenset.sizeOf a >>= _) _ _ s
 unfold Builtin.Frozenset.sizeOf
 refine wpAny_bind (wpAny_bind (wpAny_setEntries_of G.at_ G.dat G.fit (wpAny_pure ?_)))
 show wpAny _ _ (setDrawn a >>= _) _ _ s
 unfold setDrawn
 refine wpAny_bind (wpAny_bind (wpAny_setState_of G.at_ G.dat G.fit ?_))
 dsimp only
 refine wpAny_bind (byText_ev (wpAny_pure ?_))
 have last : ∀ (s1 : Shared) (first : Value), s1.heap.get? a = some o -> (Q (.ref s1.heap.objs.size) { s1 with heap := s1.heap.push { cls := .type "set_iterator", data := .fields #[first, .int 0 0, .ref a, .int n 0, .int ep 0] } }) ->
   wpAny (model prog w) A.in1 (do
    let e ← setEpoch a
    let r ← newFields "set_iterator" [first, rawInt 0, .ref a, rawInt fs.size, rawInt e]
    ret r) (fun fin s' => ∃ v, fin = Fin.done (Flow.ret v) /\ ∃ T' r, s'.TypeIs v T' /\ typeLookup (Value.type T') (Str.ofString "__next__") = pure (some r) /\ Q v s') E s1 := fun s1 first ha q => by
  refine wpAny_bind (wpAny_setEpoch_of ha G.dat G.fit ?_)
  rw [G.many]
  exact wpAny_bind (wpAny_newObj_type (wpAny_pure ⟨_, rfl, "set_iterator", _, ⟨_, Heap.get?_push_size _ rfl, rfl⟩, slot_si_next.lookup, q⟩))
 show wpAny _ _ (if (!w.params.followText "set-order" && (!u.plain && decide (fs.size > 1))) = true then _ else _) _ _ s
 cases hb : (!w.params.followText "set-order" && (!u.plain && decide (fs.size > 1))) with
 | true =>
  simp only [if_true]
  refine wpAny_bind (drawOrder_any _ _ (by simp) fun ys d hp => ?_)
  refine wpAny_bind (wpAny_newTuple ?_ (by have := hp.length_eq; have := fits_of_scanBound G.small; simp at *; omega))
  refine last _ _ (Heap.get?_push_of_some _ G.at_) ?_
  have := h2 ys d (by rw [<- G.many]; exact hp)
  have e : (s.heap.push (seqObj "tuple" (ys.map fun (i : Nat) => Value.int i 0).toArray 0)).objs.size = s.heap.objs.size + 1 := by rw [Heap.size_push]
  rw [<- e] at this
  exact this
 | false =>
  simp only [Bool.false_eq_true, if_false]
  refine last s (rawInt 0) G.at_ (h1 ?_)
  cases ht : w.params.followText "set-order" with
  | true => exact .inl rfl
  | false => rw [ht] at hb; exact .inr hb
end
end
section
section
variable {prog : Program} {w : World} {A : Around} {E : Value -> Shared -> Prop} {s : Shared}
variable {it a pt : Addr} {i n ep : Nat} {S : Int -> Bool} {led : Bool} {o : Obj} {fs : Array (Int × Value)} {u : SetTable} {items : Array Value}
theorem next_drawn {y t : Nat} {e : Int × Value} {Q : Option Value -> Shared -> Prop} (hit : IsSI s.heap it (.ref pt) i a n ep) (G : SG prog w s.heap a S n led o fs ep u) (hp : s.heap.IsTuple pt items) (hy : items[i]? = some (.int (y : Int) t)) (he : fs[y]? = some e)
  (hQ : ∀ h', IsSI h' it (.ref pt) (i + 1) a n ep -> Heap.SameBut it s.heap h' -> Q (some e.2) { s with heap := h' }) :
  wpAny (model prog w) A (pyNext (.ref it)) Q E s := by
 obtain ⟨oi, ho, hc, hd⟩ := id hit
 obtain ⟨ot, hot, _, nt, hdt⟩ := hp
 unfold pyNext
 refine wpAny_bind (wpAny_attempt (wpAny_callSpecial?_slot (name := Str.ofString "__next__") hit.typeIs slot_si_next
  (wpAny_call_entry slot_si_next hit.typeIs entry_si_next ?_ (args_si_next _))))
 show wpAny _ _ (fieldsOf (.ref it) >>= _) _ _ s
 refine wpAny_bind (wpAny_fieldsOf ho hd ?_)
 show wpAny _ _ (setEntries a >>= _) _ _ s
 refine wpAny_bind (wpAny_setEntries_of G.at_ G.dat G.fit ?_)
 rw [if_neg (by rw [G.many]; simp)]
 show wpAny _ _ (seqItems? (.ref pt) >>= _) _ _ s
 refine wpAny_bind (wpAny_seqItems hot hdt ?_)
 simp only [Int.toNat_natCast, hy]
 refine wpAny_bind ?_
 unfold setNextDrawn
 refine wpAny_bind (wpAny_setState_of G.at_ G.dat G.fit ?_)
 simp only [bne_self_eq_false, Bool.false_eq_true, if_false, he]
 refine wpAny_pure ?_
 refine wpAny_bind (wpAny_setField ho hd (by simp) (wpAny_pure ⟨e.2, rfl, wpAny_pure (hQ _ ?_ (Heap.SameBut.update ..))⟩))
 exact ⟨_, Heap.get?_update_self _ ho (Obj.isFreed_of_fields (Obj.data_mapFields hd _)), (Obj.cls_mapFields ..).trans hc, by
  rw [Obj.data_mapFields hd]; simp [rawInt]⟩
theorem next_drawnE {Q : Option Value -> Shared -> Prop} (hh : A.handled = none) (hit : IsSI s.heap it (.ref pt) i a n ep) (G : SG prog w s.heap a S n led o fs ep u) (hp : s.heap.IsTuple pt items) (hy : items[i]? = none)
  (hQ : ∀ h', Heap.ExtBut it s.heap h' -> Q none { s with heap := h' }) :
  wpAny (model prog w) A (pyNext (.ref it)) Q E s := by
 obtain ⟨oi, ho, hc, hd⟩ := id hit
 obtain ⟨ot, hot, _, nt, hdt⟩ := hp
 unfold pyNext
 refine wpAny_bind (wpAny_attempt (wpAny_callSpecial?_slot (name := Str.ofString "__next__") hit.typeIs slot_si_next
  (wpAny_call_entry slot_si_next hit.typeIs entry_si_next ?_ (args_si_next _))))
 show wpAny _ _ (fieldsOf (.ref it) >>= _) _ _ s
 refine wpAny_bind (wpAny_fieldsOf ho hd ?_)
 show wpAny _ _ (setEntries a >>= _) _ _ s
 refine wpAny_bind (wpAny_setEntries_of G.at_ G.dat G.fit ?_)
 rw [if_neg (by rw [G.many]; simp)]
 show wpAny _ _ (seqItems? (.ref pt) >>= _) _ _ s
 refine wpAny_bind (wpAny_seqItems hot hdt ?_)
 simp only [Int.toNat_natCast, hy]
 have g1 := Heap.get?_update_self (Obj.mapFields (·.setIfInBounds 0 (rawInt 0))) ho (Obj.isFreed_of_fields (Obj.data_mapFields hd _))
 have d1 := Obj.data_mapFields hd (·.setIfInBounds 0 (rawInt 0))
 refine wpAny_bind (wpAny_setField ho hd (by simp) ?_)
 refine wpAny_bind (wpAny_setField g1 d1 (by simp) ?_)
 show wpAny _ _ (newExc (.type "StopIteration") [] >>= _) _ _ _
 refine wpAny_bind ?_
 simp only [newExc, newTuple]
 refine wpAny_bind (wpAny_newObj_type ?_ (by size_fits))
 refine wpAny_bind (m := firstArgMember _ _) (wpAny_of_eq (a := Value.none) (by first | rfl | (simp only [firstArgMember]; rfl)) ?_)
 refine wpAny_newObj_type ?_ (by size_fits)
 simp only [raiseNew]
 refine wpAny_bind (wpAny_handled ?_)
 first | rw [show A.in1.handled = none from hh] | rw [hh]
 refine wpAny_bind (wpAny_pure (wpAny_throw ?_))
 refine wpAny_bind (wpAny_isInstance (T := "StopIteration") (b := true) ⟨_, Heap.get?_push_size _ rfl, rfl⟩ isSubtype_stop ?_)
 exact wpAny_pure (hQ _ ((((Heap.SameBut.update ..).trans (Heap.SameBut.update ..)).extBut.push _).push _))
end
end
section
section
variable {prog : Program} {w : World} {A : Around} {E : Value -> Shared -> Prop} {s : Shared}
def MD (w : World) (h : Heap) (a : Addr) (ws : List Value) (i n ep : Nat) (led : Bool) (fs : Array (Int × Value)) (u : SetTable) (first : Value) : Prop :=
 (w.params.followText "set-order" = true /\ (∃ (k : Int), ∃ t : Nat, first = .int k t) /\ ws = (pickOrder (w.params.setOrder a ep) fs).toList.map (·.2)) \/
 (w.params.followText "set-order" = false /\ led = true /\ (!u.plain && decide (fs.size > 1)) = false /\ Up u.place /\ u.place.size = fs.size /\ (∃ k : Nat, ∃ t : Nat, first = .int (k : Int) t /\ SetTable.below u.place k = i) /\ ws = fs.toList.map (·.2)) \/
 (∃ pt, ∃ ys : List Nat, first = .ref pt /\ h.IsTuple pt (ys.map fun (y : Nat) => Value.int y 0).toArray /\ (∀ y ∈ ys, y < fs.size) /\ ws = ys.map fun y => (fs.getD y default).2)
def StS (prog : Program) (w : World) (it a : Addr) (ws : List Value) (i : Nat) (s : Shared) : Prop := ∃ S n led o fs ep u first, SG prog w s.heap a S n led o fs ep u /\ IsSI s.heap it first i a n ep /\ ws.length = n /\ MD w s.heap a ws i n ep led fs u first
variable {it a : Addr} {ws : List Value} {i : Nat}
theorem SG.to {h h' : Heap} {S : Int -> Bool} {n ep : Nat} {led : Bool} {o : Obj} {fs : Array (Int × Value)} {u : SetTable} (G : SG prog w h a S n led o fs ep u) (k : h'.get? a = some o) : SG prog w h' a S n led o fs ep u := ⟨k, G.ex, G.dat, G.el, G.mem, G.small, G.fit, G.many, G.good⟩
theorem SG.ne {h : Heap} {S : Int -> Bool} {n ep m j : Nat} {led : Bool} {o : Obj} {fs : Array (Int × Value)} {u : SetTable} {first : Value} (G : SG prog w h a S n led o fs ep u) (x : IsSI h it first j a m ep) : a ≠ it := fun z => by
 obtain ⟨oi, ho, hc, _⟩ := x
 have := G.at_
 rw [z, ho] at this
 cases this
 rw [G.ex.1] at hc
 exact absurd hc (by decide)
theorem StS.frame {h' : Heap} {tk : Nat} (x : StS prog w it a ws i s) (k : ∀ b o, s.heap.get? b = some o -> o.cls ≠ .type "list" -> h'.get? b = some o) : StS prog w it a ws i { s with heap := h', toks := tk } := by
 obtain ⟨S, n, led, o, fs, ep, u, first, G, ⟨oi, ho, hc, hd⟩, hl, md⟩ := x
 refine ⟨S, n, led, o, fs, ep, u, first, G.to (k _ _ G.at_ (by rw [G.ex.1]; decide)), ⟨oi, k _ _ ho (by rw [hc]; decide), hc, hd⟩, hl, ?_⟩
 rcases md with md | md | ⟨pt, ys, e, ⟨ot, hot, hct, nt, hdt⟩, r⟩
 ·exact .inl md
 ·exact .inr (.inl md)
 ·exact .inr (.inr ⟨pt, ys, e, ⟨ot, k _ _ hot (by rw [hct]; decide), hct, nt, hdt⟩, r⟩)
theorem StS.item {Q : Option Value -> Shared -> Prop} (x : StS prog w it a ws i s) (hi : i < ws.length) (hQ : ∀ h', StS prog w it a ws (i + 1) { s with heap := h' } -> Heap.SameBut it s.heap h' -> Q (some ws[i]) { s with heap := h' }) : wpAny (model prog w) A (pyNext (.ref it)) Q E s := by
 obtain ⟨S, n, led, o, fs, ep, u, first, G, hit, hl, md⟩ := x
 have hne := G.ne hit
 rcases md with ⟨ht, ⟨k, t, rfl⟩, hws⟩ | ⟨ht, hled, hp, hu, hsz, ⟨k, t, rfl, hb⟩, hws⟩ | ⟨pt, ys, rfl, htp, hys, hws⟩
 ·have hlen : i < (pickOrder (w.params.setOrder a ep) fs).toList.length := by rw [hws, length_map] at hi; exact hi
  refine next_int (x := ws[i]) (nx := k.toNat) hit G (fun A Q E q => setNext_text G ht _ _ ?_) fun h' y sb => hQ h' ⟨S, n, led, o, fs, ep, u, _, G.to ((sb.2 a hne).trans G.at_), y, hl, .inl ⟨ht, ⟨_, _, rfl⟩, hws⟩⟩ sb
  have e : (pickOrder (w.params.setOrder a ep) fs)[i]? = some ((pickOrder (w.params.setOrder a ep) fs).toList[i]'hlen) := by rw [<- Array.getElem?_toList]; exact getElem?_eq_getElem hlen
  rw [e]
  have : ws[i] = ((pickOrder (w.params.setOrder a ep) fs).toList[i]'hlen).2 := by simp [hws]
  rw [this] at q
  exact q
 ·have hlen : i < fs.size := by rw [hws, length_map, Array.length_toList] at hi; exact hi
  have hpl : i < u.place.size := by omega
  refine next_int (x := ws[i]) (nx := u.place[i] + 1) hit G (fun A Q E q => setNext_places G ht hled hp _ _ ?_) fun h' y sb => hQ h' ⟨S, n, led, o, fs, ep, u, _, G.to ((sb.2 a hne).trans G.at_), y, hl, .inr (.inl ⟨ht, hled, hp, hu, hsz, ⟨u.place[i] + 1, _, rfl, below_next hu hpl⟩, hws⟩)⟩ sb
  rw [Int.toNat_natCast, hb, Array.getElem?_eq_getElem hlen, Array.getElem?_eq_getElem hpl]
  have : ws[i] = fs[i].2 := by simp [hws]
  rw [this] at q
  exact q
 ·have hlen : i < ys.length := by rw [hws, length_map] at hi; exact hi
  have hy := hys ys[i] (getElem_mem hlen)
  have hpt : pt ≠ it := fun z => by
   obtain ⟨ot, hot, hct, _⟩ := htp
   obtain ⟨oi, ho, hc, _⟩ := hit
   rw [z, ho] at hot; cases hot
   rw [hct] at hc
   exact absurd hc (by decide)
  have hw : ws[i] = fs[ys[i]].2 := by simp [hws, hy]
  rw [hw] at hQ
  refine next_drawn (y := ys[i]) (t := 0) (e := fs[ys[i]]) hit G htp (by simp [hlen]) (Array.getElem?_eq_getElem hy) fun h' y sb => hQ h' ⟨S, n, led, o, fs, ep, u, _, G.to ((sb.2 a hne).trans G.at_), y, hl, .inr (.inr ⟨pt, ys, rfl, ?_, hys, hws⟩)⟩ sb
  obtain ⟨ot, hot, r⟩ := htp
  exact ⟨ot, (sb.2 pt hpt).trans hot, r⟩
theorem StS.done {Q : Option Value -> Shared -> Prop} (hh : A.handled = none) (x : StS prog w it a ws ws.length s) (hQ : ∀ h', Heap.ExtBut it s.heap h' -> Q none { s with heap := h' }) : wpAny (model prog w) A (pyNext (.ref it)) Q E s := by
 obtain ⟨S, n, led, o, fs, ep, u, first, G, hit, hl, md⟩ := x
 rcases md with ⟨ht, ⟨k, t, rfl⟩, hws⟩ | ⟨ht, hled, hp, hu, hsz, ⟨k, t, rfl, hb⟩, hws⟩ | ⟨pt, ys, rfl, htp, hys, hws⟩
 ·refine next_intE hh hit G (fun A Q E q => setNext_text G ht _ _ ?_) hQ
  rw [Array.getElem?_eq_none (by rw [hws, length_map, Array.length_toList]; exact Nat.le_refl _)]
  exact q
 ·refine next_intE hh hit G (fun A Q E q => setNext_places G ht hled hp _ _ ?_) hQ
  rw [Int.toNat_natCast, hb, Array.getElem?_eq_none (by rw [hws, length_map, Array.length_toList]; exact Nat.le_refl _)]
  exact q
 ·exact next_drawnE hh hit G htp (by simp [hws]) hQ
end
end
section
section
variable {prog : Program} {w : World} {A : Around} {E : Value -> Shared -> Prop} {s : Shared} {it a : Addr} {ws : List Value}
def lstO (acc : Array Value) (c : Nat) : Obj := { cls := .type "list", dict := none, data := .seq acc c, slots := #[] }
theorem extS {R : Result -> Shared -> Prop} (hh : A.handled = none) (hz : ws.length <= sizeLine) (L : Addr) (res : Value) :
  ∀ (r i : Nat) (s : Shared) (acc : Array Value) (c : Nat), ws.length - i = r -> i <= ws.length -> StS prog w it a ws i s -> s.heap.get? L = some (lstO acc c) -> acc.toList = ws.take i -> L ≠ it ->
   (∀ h' c', (∀ b o, b ≠ L -> b ≠ it -> s.heap.get? b = some o -> h'.get? b = some o) -> h'.get? L = some (lstO ws.toArray c') -> R (.ok (.ret res)) { s with heap := h' }) ->
   codeAny (model prog w) A (.builtin "list.extend.loop" ⟨[.ref L, .ref it, res], []⟩) R s := by
 intro r
 induction r with
 | zero =>
  intro i s acc c hr hi st hL hacc hne fin
  obtain rfl : i = ws.length := by omega
  refine codeAny_builtin PySem.F.entry_extend_loop ?_
  rw [Around.under_plainId PySem.F.plain_extend_loop _]
  show wpAny _ A.in1 (pyNext (.ref it) >>= _) _ _ s
  refine wpAny_bind (st.done (by simpa using hh) fun h' eb => ?_)
  rw [take_length] at hacc
  have e : acc = ws.toArray := by rw [<- hacc]
  subst e
  exact wpAny_pure (fin h' c (fun b o _ z q => eb b o z q) (eb L _ hne hL))
 | succ r ih =>
  intro i s acc c hr hi st hL hacc hne fin
  have lt : i < ws.length := by omega
  have hsz : acc.size = i := by rw [<- Array.length_toList, hacc, length_take]; omega
  refine codeAny_builtin PySem.F.entry_extend_loop ?_
  rw [Around.under_plainId PySem.F.plain_extend_loop _]
  show wpAny _ A.in1 (pyNext (.ref it) >>= _) _ _ s
  refine wpAny_bind (st.item lt fun h1 st1 sb => ?_)
  have hL1 : h1.get? L = some (lstO acc c) := (sb.2 L hne).trans hL
  show wpAny _ A.in1 (updateSeq L (·.push ws[i]) >>= _) _ _ _
  refine wpAny_bind ?_
  refine wpAny_updateSeq hL1 rfl (wpAny_pure ⟨plainId_quiet PySem.F.plain_extend_loop _, ih (i + 1) _ (acc.push ws[i]) _ (by omega) lt (st1.frame (tk := s.toks) fun b o e hc => ?_) (Heap.get?_update_self _ hL1 rfl) ?_ hne fun h2 c2 k2 g2 => ?_⟩) (by rw [hsz]; omega) (by show (acc.push ws[i]).size <= sizeLine + 1; rw [Array.size_push, hsz]; omega)
  ·refine (Heap.get?_update_other _ _ (fun z : L = b => ?_)).trans e
   subst z
   have e : h1.get? L = some o := e
   rw [hL1] at e; cases e
   exact hc rfl
  ·rw [Array.toList_push, hacc, take_append_getElem lt]
  ·refine fin h2 c2 (fun b o hb hb2 e => k2 b o hb hb2 ?_) g2
   exact (Heap.get?_update_other _ _ (Ne.symm hb)).trans ((sb.2 b hb2).trans e)
end
end
section
section
variable {prog : Program} {w : World} {A : Around} {E : Value -> Shared -> Prop} {s : Shared} {a : Addr}
theorem hint_set {Q : Bool -> Shared -> Prop} (hT : s.TypeIs (.ref a) "set") (h : Q false s) : wpAny (model prog w) A (Builtin.List.listLengthHint (.ref a)) Q E s := by
 unfold Builtin.List.listLengthHint
 refine wpAny_bind (wpAny_specialOf hT PySem.F.slot_set_len.lookup ?_)
 generalize hid : ("set.__len__" : String) = id0
 wp_delta
 rw [show splitId id0 = some ("set", "__len__") from by subst hid; decide +kernel]
 subst hid
 refine wpAny_bind (wpAny_isInstance (T := "set") (b := true) hT (by rw [isSubtype_type]; kernel_rfl) ?_)
 refine wpAny_ite_split (fun z => absurd z (by decide)) (fun _ => ?_)
 refine wpAny_ite_split (fun _ => ?_) (fun z => absurd (by decide +kernel) z)
 refine wpAny_bind (wpAny_typeOf hT ?_)
 exact wpAny_pure h
variable {S : Int -> Bool} {n ep : Nat} {led : Bool} {o : Obj} {fs : Array (Int × Value)} {u : SetTable}
theorem up_small {xs : Array Nat} (h : xs.size <= 1) : Up xs := by
 obtain ⟨l⟩ := xs
 match l with
 | [] => exact List.Pairwise.nil
 | [x] => exact pairwise_singleton ..
 | x :: y :: r => simp at h
theorem walk_perm {ys : List Nat} (h : ys.Perm (List.range fs.size)) : (ys.map fun y => (fs.getD y default).2).Perm (fs.toList.map (·.2)) := by
 refine (h.map _).trans ?_
 have : (List.range fs.size).map (fun y => (fs.getD y default).2) = fs.toList.map (·.2) := by
  apply ext_getElem
  ·simp
  ·intro i h1 h2
   have : i < fs.size := by simpa using h1
   simp [this]
 rw [this]
theorem collect_rest {s2 : Shared} {it L : Addr} {ws : List Value} {R : Result -> Shared -> Prop} (hh : A.handled = none) (hz : ws.length <= sizeLine) (hT : s2.TypeIs (.ref a) "set") (st : StS prog w it a ws 0 s2) (hL : s2.heap.get? L = some (lstO #[] 0)) (hne : L ≠ it)
  {P : PySem.Fin -> Shared -> Prop} {E' : Value -> Shared -> Prop} (hP : ∀ c' s', (c'.quiet = true /\ codeAny (model prog w) A c' R s') -> P (.again c') s')
  (fin : ∀ h' c', (∀ b o, b ≠ L -> b ≠ it -> s2.heap.get? b = some o -> h'.get? b = some o) -> h'.get? L = some (lstO ws.toArray c') -> R (.ok (.ret (.ref L))) { s2 with heap := h' }) :
  wpAny (model prog w) A.in1 (do
   let room ← holding [.ref it] (Builtin.List.listLengthHint (.ref a))
   if (room || ["set", "frozenset", "dict", "dict_keys", "dict_values", "dict_items"].any (Value.type "set" == .type ·)) = true then do
    rule "list.extend.makes-room"
    Builtin.List.listTouch (.ref L)
    again (.builtin "list.extend.loop" ⟨[.ref L, .ref it, .ref L], []⟩)
   else again (.builtin "list.extend.loop" ⟨[.ref L, .ref it, .ref L], []⟩)) P E' s2 := by
 refine wpAny_bind (wpAny_holding (hint_set hT ?_))
 rw [if_pos (by decide)]
 refine wpAny_bind (wpAny_rule ?_)
 refine wpAny_bind ?_
 show wpAny _ A.in1 (updateSeq L (·.push .none) >>= fun _ => updateSeq L (·.pop)) _ _ _
 refine wpAny_bind (wpAny_updateSeq hL rfl ?_)
 have g2 := Heap.get?_update_self (Obj.mapSeq (·.push Value.none)) hL rfl
 refine wpAny_updateSeq g2 rfl ?_
 have g3 := Heap.get?_update_self (Obj.mapSeq (·.pop)) g2 rfl
 have oth : ∀ b o, b ≠ L -> s2.heap.get? b = some o -> ((s2.heap.update L (Obj.mapSeq (·.push Value.none))).update L (Obj.mapSeq (·.pop))).get? b = some o := fun b o hb e => (Heap.get?_update_other _ _ (Ne.symm hb)).trans ((Heap.get?_update_other _ _ (Ne.symm hb)).trans e)
 refine wpAny_pure (hP _ _ ⟨plainId_quiet PySem.F.plain_extend_loop _, extS hh hz L _ ws.length 0 _ _ _ rfl (Nat.zero_le _) (st.frame (tk := s2.toks) fun b o e hc => oth b o (fun z => ?_) e) g3 rfl hne fun h' c' k g => fin h' c' (fun b o hb hb2 e => k b o hb hb2 (oth b o hb e)) g⟩)
 subst z
 rw [hL] at e; cases e
 exact hc rfl
end
end
section
section
variable {prog : Program} {w : World} {A : Around} {E : Value -> Shared -> Prop} {s : Shared} {a : Addr}
variable {S : Int -> Bool} {n ep : Nat} {led : Bool} {o : Obj} {fs : Array (Int × Value)} {u : SetTable}
theorem collectSet (hh : A.handled = none) (G : SG prog w s.heap a S n led o fs ep u) (hled : led = ledOf w) {Q : List Value -> Shared -> Prop}
  (fin : ∀ ws h' d, ws.Perm (fs.toList.map (·.2)) -> (∀ b o, b < s.heap.objs.size -> s.heap.get? b = some o -> h'.get? b = some o) -> s.heap.objs.size < h'.objs.size -> Q ws { s with heap := h', drawn := d }) :
  wpAny (model prog w) A (collect (.ref a)) Q E s := by
 have hlt : a < s.heap.objs.size := Heap.lt_size G.at_
 have hfz : fs.size <= sizeLine := fits_of_scanBound G.small
 unfold collect
 refine wpAny_bind (wpAny_runValue (codeAny_builtin PySem.F.entry_proto_collect ?_))
 rw [Around.under_plainId PySem.F.plain_proto_collect _]
 show wpAny _ A.in1 (newList [] >>= fun l => again (.builtin "list.__iadd__" ⟨[l, .ref a], []⟩)) _ _ s
 refine wpAny_bind (wpAny_newObj_type ?_)
 refine wpAny_pure ⟨plainId_quiet PySem.F.plain_list_iadd _, codeAny_builtin PySem.F.entry_list_iadd ?_⟩
 rw [Around.under_plainId PySem.F.plain_list_iadd _]
 have G1 : SG prog w (s.heap.push (lstO #[] 0)) a S n led o fs ep u := G.to (Heap.get?_push_of_some _ G.at_)
 have hL : (s.heap.push (lstO #[] 0)).get? s.heap.objs.size = some (lstO #[] 0) := Heap.get?_push_size _ rfl
 have hsz : (s.heap.push (lstO #[] 0)).objs.size = s.heap.objs.size + 1 := by rw [Heap.size_push]
 show wpAny _ A.in1 (Builtin.List.listExtendWith (.ref s.heap.objs.size) (.ref a) (.ref s.heap.objs.size)) _ _ { s with heap := s.heap.push (lstO #[] 0) }
 unfold Builtin.List.listExtendWith
 have hT1 : Shared.TypeIs { s with heap := s.heap.push (lstO #[] 0) } (.ref a) "set" := ⟨o, G1.at_, G.ex.1⟩
 refine wpAny_bind (wpAny_typeOf hT1 ?_)
 have h1 : Builtin.List.listSameRef (.ref s.heap.objs.size) (.ref a) = false := by simp [Builtin.List.listSameRef, Nat.ne_of_gt hlt]
 rw [if_neg (by rw [h1]; decide)]
 refine wpAny_bind (iter_set G1 (fun hc => ?_) fun ys d hp => ?_)
 ·obtain ⟨ws, hp, md⟩ : ∃ ws : List Value, ws.Perm (fs.toList.map (·.2)) /\ MD w ((s.heap.push (lstO #[] 0)).push { cls := .type "set_iterator", data := .fields #[.int 0 0, .int 0 0, .ref a, .int n 0, .int ep 0] }) a ws 0 n ep led fs u (.int 0 0) := by
   cases ht : w.params.followText "set-order" with
   | true => exact ⟨_, (pick_perm _ _).map _, .inl ⟨ht, ⟨_, _, rfl⟩, rfl⟩⟩
   | false =>
    have hp : (!u.plain && decide (fs.size > 1)) = false := by
     rcases hc with hc | hc
     ·rw [ht] at hc; cases hc
     ·exact hc
    have hps : u.place.size = fs.size := by
     have := G.fit
     simp only [SetTable.fits, Bool.and_eq_true, beq_iff_eq] at this
     exact this.1
    have hu : Up u.place := by
     cases hpl : u.plain with
     | true => exact G.good.2 hpl
     | false =>
      rw [hpl] at hp
      simp only [Bool.not_false, Bool.true_and, decide_eq_false_iff_not] at hp
      exact up_small (by omega)
    exact ⟨_, .refl _, .inr (.inl ⟨ht, by rw [hled]; unfold ledOf; rw [ht]; rfl, hp, hu, hps, ⟨0, 0, rfl, below_zero hu⟩, rfl⟩)⟩
  have hwl : ws.length = n := by rw [hp.length_eq, length_map, Array.length_toList, G.many]
  have hne : s.heap.objs.size ≠ (s.heap.push (lstO #[] 0)).objs.size := by rw [hsz]; exact Nat.ne_of_lt (Nat.lt_succ_self _)
  have gs : ((s.heap.push (lstO #[] 0)).push { cls := .type "set_iterator", data := .fields #[.int 0 0, .int 0 0, .ref a, .int n 0, .int ep 0] }).get? (s.heap.push (lstO #[] 0)).objs.size = some { cls := .type "set_iterator", data := .fields #[.int 0 0, .int 0 0, .ref a, .int n 0, .int ep 0] } := Heap.get?_push_size _ rfl
  have ga := Heap.get?_push_of_some { cls := .type "set_iterator", data := .fields #[.int 0 0, .int 0 0, .ref a, .int n 0, .int ep 0] } G1.at_
  have gl := Heap.get?_push_of_some { cls := .type "set_iterator", data := .fields #[.int 0 0, .int 0 0, .ref a, .int n 0, .int ep 0] } hL
  refine collect_rest (s2 := { s with heap := (s.heap.push (lstO #[] 0)).push { cls := .type "set_iterator", data := .fields #[.int 0 0, .int 0 0, .ref a, .int n 0, .int ep 0] } }) (a := a) (it := (s.heap.push (lstO #[] 0)).objs.size) (L := s.heap.objs.size) (ws := ws) hh (by rw [hwl, <- G.many]; exact hfz) ⟨o, ga, G.ex.1⟩ ⟨S, n, led, o, fs, ep, u, .int 0 0, G1.to ga, ⟨_, gs, rfl, rfl⟩, hwl, md⟩ gl hne (fun c' s' h => h) fun h' c' k g => ?_
  show wpAny _ A (load s.heap.objs.size >>= _) _ _ _
  refine wpAny_bind (wpAny_load g ?_)
  refine wpAny_pure (fin ws h' s.drawn hp (fun b o hb e => k b o (Nat.ne_of_lt hb) (by rw [hsz]; exact Nat.ne_of_lt (Nat.lt_succ_of_lt hb)) (Heap.get?_push_of_some _ (Heap.get?_push_of_some _ e))) (Heap.lt_size g))
 ·have hpf : ys.Perm (List.range fs.size) := by rw [G.many]; exact hp
  have hwp := walk_perm (fs := fs) hpf
  have hwl : (ys.map fun y => (fs.getD y default).2).length = n := by rw [hwp.length_eq, length_map, Array.length_toList, G.many]
  have hne : s.heap.objs.size ≠ (s.heap.push (lstO #[] 0)).objs.size + 1 := by rw [hsz]; exact Nat.ne_of_lt (Nat.lt_succ_of_lt (Nat.lt_succ_self _))
  have hat : ((s.heap.push (lstO #[] 0)).push (seqObj "tuple" (ys.map fun (i : Nat) => Value.int i 0).toArray 0)).objs.size = (s.heap.push (lstO #[] 0)).objs.size + 1 := by rw [Heap.size_push]
  generalize htp : seqObj "tuple" (ys.map fun (i : Nat) => Value.int i 0).toArray 0 = tp at *
  generalize hio : ({ cls := .type "set_iterator", data := .fields #[.ref (s.heap.push (lstO #[] 0)).objs.size, .int 0 0, .ref a, .int n 0, .int ep 0] } : Obj) = io
  have hic : io.cls = .type "set_iterator" := by rw [<- hio]
  have hid : io.data = .fields #[.ref (s.heap.push (lstO #[] 0)).objs.size, .int 0 0, .ref a, .int n 0, .int ep 0] := by rw [<- hio]
  have htt : tp.cls = .type "tuple" /\ tp.data = .seq (ys.map fun (i : Nat) => Value.int i 0).toArray 0 := by rw [<- htp]; exact ⟨rfl, rfl⟩
  have gt : ((s.heap.push (lstO #[] 0)).push tp).get? (s.heap.push (lstO #[] 0)).objs.size = some tp := Heap.get?_push_size _ (by rw [<- htp]; rfl)
  have gs : (((s.heap.push (lstO #[] 0)).push tp).push io).get? ((s.heap.push (lstO #[] 0)).objs.size + 1) = some io := by
   rw [<- hat]; exact Heap.get?_push_size _ (by rw [<- hio]; rfl)
  have ga : (((s.heap.push (lstO #[] 0)).push tp).push io).get? a = some o := Heap.get?_push_of_some _ (Heap.get?_push_of_some _ G1.at_)
  have gl : (((s.heap.push (lstO #[] 0)).push tp).push io).get? s.heap.objs.size = some (lstO #[] 0) := Heap.get?_push_of_some _ (Heap.get?_push_of_some _ hL)
  have st : StS prog w ((s.heap.push (lstO #[] 0)).objs.size + 1) a (ys.map fun y => (fs.getD y default).2) 0 { s with heap := ((s.heap.push (lstO #[] 0)).push tp).push io, drawn := d } :=
   ⟨S, n, led, o, fs, ep, u, .ref (s.heap.push (lstO #[] 0)).objs.size, G1.to ga, ⟨io, gs, hic, hid⟩, hwl, .inr (.inr ⟨_, ys, rfl, ⟨tp, Heap.get?_push_of_some _ gt, htt.1, 0, htt.2⟩, fun y hy => List.mem_range.mp (hpf.mem_iff.mp hy), rfl⟩)⟩
  refine collect_rest (s2 := { s with heap := ((s.heap.push (lstO #[] 0)).push tp).push io, drawn := d }) (a := a) (it := (s.heap.push (lstO #[] 0)).objs.size + 1) (L := s.heap.objs.size) hh (by rw [hwl, <- G.many]; exact hfz) ⟨o, ga, G.ex.1⟩ st gl hne (fun c' s' h => h) fun h' c' k g => ?_
  show wpAny _ A (load s.heap.objs.size >>= _) _ _ _
  refine wpAny_bind (wpAny_load g ?_)
  refine wpAny_pure (fin _ h' d hwp (fun b o hb e => k b o (Nat.ne_of_lt hb) (by rw [hsz]; exact Nat.ne_of_lt (Nat.lt_succ_of_lt (Nat.lt_succ_of_lt hb))) (Heap.get?_push_of_some _ (Heap.get?_push_of_some _ (Heap.get?_push_of_some _ e)))) (Heap.lt_size g))
end
end
section
theorem perm_of_sub : ∀ {l m : List Int}, l.Nodup -> (∀ x ∈ l, x ∈ m) -> l.length = m.length -> l.Perm m
 | [], m, _, _, h => by rw [List.length_eq_zero_iff.mp h.symm]
 | x :: l, m, hd, hs, hl => by
  have hx := hs x (by simp)
  have hn := List.nodup_cons.mp hd
  refine (List.Perm.cons x (perm_of_sub hn.2 (fun y hy => ?_) ?_)).trans (perm_cons_erase hx).symm
  ·exact (mem_erase_of_ne (fun z : y = x => hn.1 (by rw [<- z]; exact hy))).mpr (hs y (by simp [hy]))
  ·rw [length_erase_of_mem hx]
   simp only [length_cons] at hl
   omega
theorem firstMet_nodup (val : Nat -> Int) : ∀ i, (firstMet val i).Nodup
 | 0 => by rw [firstMet_zero]; exact nodup_nil
 | i + 1 => by
  rw [firstMet_succ]
  unfold step_dedup
  split
  ·exact firstMet_nodup val i
  ·rename_i h
   refine List.nodup_append.mpr ⟨firstMet_nodup val i, by simp, fun a ha b hb => ?_⟩
   rw [mem_singleton] at hb
   intro z
   subst hb
   exact h (List.any_eq_true.mpr ⟨a, ha, by simp [z]⟩)
section
variable {prog : Program} {w : World} {A : Around} {E : Value -> Shared -> Prop} {s : Shared} {a : Addr}
variable {S : Int -> Bool} {n ep : Nat} {led : Bool} {o : Obj} {fs : Array (Int × Value)} {u : SetTable}
theorem ints_of : ∀ {l : List (Int × Value)}, ElemsOf (KI prog w) l -> ∃ ks : List Int, IntsAre (l.map (·.2)) ks /\ ∀ k, k ∈ ks ↔ ∃ e ∈ l, (KI prog w).is k e.2 = true
 | [], _ => ⟨[], .nil, fun k => by simp⟩
 | e :: l, h => by
  obtain ⟨ks, h1, h2⟩ := ints_of h.tail
  obtain ⟨⟨k, hk, _⟩, _⟩ := h.head
  obtain ⟨t, ht⟩ := Value.isInt_shape hk
  refine ⟨k :: ks, ?_, fun j => ?_⟩
  ·rw [map_cons, ht]; exact .cons k t h1
  ·rw [mem_cons, h2]
   constructor
   ·rintro (rfl | ⟨f, hf, q⟩)
    ·exact ⟨e, by simp, hk⟩
    ·exact ⟨f, by simp [hf], q⟩
   ·rintro ⟨f, hf, q⟩
    rcases List.mem_cons.mp hf with rfl | hf
    ·exact .inl ((KI prog w).inj _ _ _ q hk)
    ·exact .inr ⟨f, hf, q⟩
theorem ints_perm : ∀ {vs ws : List Value}, ws.Perm vs -> ∀ {ns : List Int}, IntsAre vs ns -> ∃ ms, IntsAre ws ms /\ ms.Perm ns := by
 intro vs ws p
 induction p with
 | nil => exact fun h => ⟨_, h, .refl _⟩
 | cons x _ ih =>
  intro ns h
  cases h with
  | cons n t h => obtain ⟨ms, a, b⟩ := ih h; exact ⟨n :: ms, .cons n t a, b.cons n⟩
 | swap x y l =>
  intro ns h
  cases h with
  | cons n t h =>
   cases h with
   | cons m t2 h => exact ⟨_, .cons _ _ (.cons _ _ h), .swap _ _ _⟩
 | trans _ _ ih1 ih2 =>
  intro ns h
  obtain ⟨ms, a, b⟩ := ih2 h
  obtain ⟨ks, c, d⟩ := ih1 a
  exact ⟨ks, c, d.trans b⟩
theorem sortedSet (hh : A.handled = none) (G : SG prog w s.heap a S n led o fs ep u) (hled : led = ledOf w) (D : List Int) (hS : ∀ k, S k = D.any (· == k)) (hn : n = D.length) (hd : D.Nodup) (h64 : n < 64) {Q : Value -> Shared -> Prop}
  (fin : ∀ (q : Addr) h' d out e, IntsAre out.toList (isort D) -> h'.get? q = some (seqObj "list" out e) -> s.heap.objs.size <= q -> (∀ b o, b < s.heap.objs.size -> s.heap.get? b = some o -> h'.get? b = some o) -> Q (.ref q) { s with heap := h', drawn := d }) :
  wpAny (model prog w) A (call (.builtin "sorted") [.ref a]) Q E s := by
 obtain ⟨ks, hk1, hk2⟩ := ints_of G.el
 have hkl : ks.length = D.length := by rw [<- hn, <- G.many, <- IntsAre.length hk1]; simp
 have hkp : D.Perm ks := perm_of_sub hd (fun x hx => (hk2 x).mpr ((G.mem x).mp (by rw [hS]; exact List.any_eq_true.mpr ⟨x, hx, by simp⟩))) hkl.symm
 refine Calls.call_function_entry kind_sorted plain_sorted entry_sorted (args_sorted1 _) ?_
 unfold Builtin.«sorted»
 refine wpAny_bind (m := checkCount "sorted" 1 1 _) (wpAny_pure ?_)
 refine wpAny_bind (collectSet (by simpa using hh) G hled fun ws h' d hp keep hsz => ?_)
 obtain ⟨ms, hm1, hm2⟩ := ints_perm hp hk1
 have hwl : ws.length < 64 := by rw [hp.length_eq, length_map, Array.length_toList, G.many]; exact h64
 refine wpAny_bind (wpAny_newList ?_)
 have hoL : (h'.push (seqObj "list" ws.toArray 0)).get? h'.objs.size = some (seqObj "list" ws.toArray 0) := Heap.get?_push_size _ rfl
 show wpAny _ _ _ _ _ { s with heap := h'.push (seqObj "list" ws.toArray 0), drawn := d }
 refine wpAny_bind (wpAny_holding (wpAny_call_entry slot_list_sort ⟨_, hoL, rfl⟩ entry_list_sort (list_sort_tree hoL hm1 hwl fun out ns' a1 a2 a3 => ⟨_, rfl, ?_⟩) (args_list_sort _)))
 have e : ns' = isort D := sorted_uniq ((a2.trans (hm2.trans hkp.symm)).trans (isort_perm D).symm) a3 (isort_sorted D)
 subst e
 obtain ⟨c, hc⟩ := sortedHeap_at (out := out) hoL
 refine wpAny_pure ⟨_, rfl, fin _ _ d out c a1 hc (Nat.le_of_lt hsz) fun b o hb e => ?_⟩
 rw [sortedHeap_old (Nat.ne_of_lt (Nat.lt_trans hb hsz)) (by rw [size_push']; exact Nat.lt_succ_of_lt (Nat.lt_trans hb hsz))]
 exact Heap.get?_push_of_some _ (keep b o hb e)
end
end
section
def ddI (ns : List Int) : List Int := firstMet (fun i => ns.getD i 0) ns.length
def SetH (P : Program) (w : World) (a : Addr) (ns : List Int) : HO := .ext fun h => SetG P w h a (inL (fun i => ns.getD i 0) ns.length) (ddI ns).length (ledOf w)
def rSet (P : Program) (w : World) (K : W.Frag) : List V -> Hp -> VK -> Prop := fun vs H Q => ∃ (p : Addr) (ns : List Int), vs = [.ref p] /\ SqL K H p (ns.map V.int) /\ ns.length < 64 /\ ∀ a, H a = none -> Q (.ref a) (upd H a (SetH P w a ns))
def rSortS (P : Program) (w : World) : List V -> Hp -> VK -> Prop := fun vs H Q => ∃ (a : Addr) (ns : List Int), vs = [.ref a] /\ H a = some (SetH P w a ns) /\ ns.length < 64 /\ ∀ q, H q = none -> Q (.ref q) (upd H q (.lst ((isort (ddI ns)).map V.int)))
section
variable {X : Cx} {e : Expr} {pos : Pos}
theorem call_setL (hc : X.calm = true) : CallR X (.type "set") (rSet X.prog X.w X.K) := by
 intro pins s σ H xs us Q I r h
 obtain ⟨p, ns, rfl, sq, h64, q⟩ := h
 obtain ⟨v, rfl, rx⟩ := vals1 r
 cases rx
 obtain ⟨its, vr, pl, hz⟩ := I.list sq
 have hl : its.length = ns.length := by rw [<- vr.length, length_map]
 have hsz : its.toArray.size = ns.length := by simp [hl]
 refine callSetG (items := its.toArray) (ns := ns) (I.ok.hd hc) pl.isList (by simpa using ints_vals vr) (by rw [hsz]; unfold scanBound; omega) fun h' tk g keep => ?_
 rw [hsz] at g
 refine ⟨.ref s.heap.objs.size, _, I.laid (t' := tk) (o := SetH X.prog X.w s.heap.objs.size ns) (fun b u e => keep b u (Heap.lt_size e) e) (Nat.le_refl _) ⟨g, ?_, fun h1 h2 g1 k => SetG.stay g1 k⟩, rfl, q _ (I.hok.fresh (Nat.le_refl _))⟩
 obtain ⟨o, _, _, _, G⟩ := g
 exact ⟨o, G.at_⟩
theorem call_sortS (hc : X.calm = true) : CallR X (.builtin "sorted") (rSortS X.prog X.w) := by
 intro pins s σ H xs us Q I r h
 obtain ⟨a, ns, rfl, ha, h64, q⟩ := h
 obtain ⟨v, rfl, rx⟩ := vals1 r
 cases rx
 have ok := I.hok a _ ha
 obtain ⟨g, _, _⟩ := ok
 obtain ⟨o, fs, ep, u, G⟩ := g
 have hle : (ddI ns).length <= ns.length := firstMet_length_le _ _
 refine sortedSet (I.ok.hd hc) G rfl (ddI ns) (fun k => rfl) rfl (firstMet_nodup _ _) (by omega) fun w h' d out e hi hw hlt keep => ?_
 have I' : Inv X pins σ H { s with drawn := d } := ⟨I.ok, I.os, I.bare, I.base, I.loc, I.cell, I.free, I.freeC, I.pin, I.hok, I.len⟩
 refine ⟨.ref w, _, I'.laid (t' := s.toks) (o := .lst ((isort (ddI ns)).map V.int)) (fun b u e => keep b u (Heap.lt_size e) e) hlt ⟨?_, out.toList, e, vals_intsA hi, by simpa using hw⟩, rfl, q _ (I.hok.fresh hlt)⟩
 rw [length_map, isort_length, sizeLine_eq]; omega
@[irreducible] def msortSet (m : ML) : ML := fun ρ => match m ρ with | some ds => (match intsD ds with | some ns => if ns.length < 64 then some ((isort (ddI ns)).map .int) else none | none => none) | none => none
theorem pf_sortSet {p p2 pos2 : Pos} {m : ML} (hc : X.calm = true) (hg : Gl X "sorted") (hm : X.mg "sorted" = none) (hg2 : Gl X "set") (hm2 : X.mg "set" = none) (ha : PB X e m) (hv : bootBuiltins "sorted" = some (.builtin "sorted")) (hv2 : bootBuiltins "set" = some (.type "set"))
  (hs : starEach (e :: []) X.env = (false, eval e X.env) :: starEach [] X.env := by rfl) (he : starEach [e] X.env = (false, eval e X.env) :: starEach [] X.env := by rfl)
  (hs2 : starEach ((.Call (.Name "set" p2) [e] [] pos2) :: []) X.env = (false, eval (.Call (.Name "set" p2) [e] [] pos2) X.env) :: starEach [] X.env := by rfl) (he2 : starEach [(.Call (.Name "set" p2) [e] [] pos2)] X.env = (false, eval (.Call (.Name "set" p2) [e] [] pos2) X.env) :: starEach [] X.env := by rfl)
  (hpl2 : (backTo pos2 (starEach [] X.env)).any (·.1) = false := by rfl) (hpl : (backTo pos (starEach [] X.env)).any (·.1) = false := by rfl) : PF X (.Call (.Name "sorted" p) [.Call (.Name "set" p2) [e] [] pos2] [] pos) (msortSet m) :=
 (pe_callB (call_sortS hc) hg hm hv (pa_cons (pe_callTy (call_setL hc) hg2 hm2 hv2 (pa_cons ha pa_nil hs) (by decide) (by decide) he hpl2) pa_nil hs2) (by decide) (by decide) he2 hpl).imp fun σ H Q hpat => by
  obtain ⟨F0, H0, F, ρ, g, rl, e, q⟩ := hpat
  unfold msortSet at e
  cases h1 : m ρ with
  | none => simp only [h1] at e; cases e
  | some ds =>
   simp only [h1] at e
   cases h2 : intsD ds with
   | none => simp only [h2] at e; cases e
   | some ns =>
    simp only [h2] at e
    split at e
    ·rename_i h64
     cases e
     refine ⟨F0, H0, F, ρ, ds, rl, h1, fun p xs F1 H1 x1 s1 r1 => ⟨p, ns, rfl, ?_, h64, fun a hna => ⟨a, ns, rfl, upd_same, h64, fun w hw => ?_⟩⟩⟩
     ·rw [<- intsD_reps r1 h2]; exact s1
     ·have x2 : Ext F1 H1 F1 (upd H1 a (SetH X.prog X.w a ns)) := Ext.own x1.fh hna
      have hw1 : H1 w = none := x2.hh.free hw
      exact q w _ F1 _ (x1.trans (x2.trans (Ext.own x2.fh hw))) (x1.hh.free hw1) (x1.fh.free hw1) upd_same (reps_ints _)
    ·cases e
end
end
end L2
set_option maxHeartbeats 4000000
namespace Lw
open List
open PySem L2
section
noncomputable section
def b_Z1 : MS := (mif (mtest (m2 ltD (mvar 0) (mc (.int 1)))) mnever mnext)
def m_Z1 : MF := runB 1 b_Z1
def b_Z5_f0 : MS := (mseq (mif (cor (mtest (m2 ltD (mvar 3) (mvar 2))) (mtest (m2 geD (mvar 3) (mlen (bvar 0))))) (mret (mc (.bl false))) mnext) (mset 2 (m2 addD (mvar 3) (mc (.int 1)))))
def b_Z5 : MS := (mseq (mset 2 (mc (.int 0))) (mseq (mfor (aslst (mvar 1)) (.nm 3) b_Z5_f0) (mret (mc (.bl true)))))
def m_Z5 : MF := runB 4 b_Z5
def b_Z8_f0 : MS := (mif (cor (mtest (m2 ltD (call1 max2F (acons (mvar 2) (acons (mvar 4) anil))) (mvar 3))) (mtest (m2 ltD (mvar 3) (call1 min2F (acons (mvar 2) (acons (mvar 4) anil)))))) (maug 1 (mc (.int 1))) mnext)
def b_Z8 : MS := (mseq (mset 1 (mc (.int 0))) (mseq (mfor (mlist zip3 (acons (mvar 0) (acons (mlst (mcut (bvar 0) (osome (mc (.int 1))) onone)) (acons (mlst (mcut (bvar 0) (osome (mc (.int 2))) onone)) anil)))) (.tp [2, 3, 4]) b_Z8_f0) (mretO 1)))
def m_Z8 : MF := runB 5 b_Z8
def b_Z4_f0 : MS := (mif (mtest (m2 ltD (call1 absF (acons (m2 subD (mvar 3) (mvar 2)) anil)) (mvar 1))) (mret (mc (.bl false))) mnext)
def b_Z4 : MS := (mseq (mfor (mlist zip2 (acons (mvar 0) (acons (mlst (mcut (bvar 0) (osome (mc (.int 1))) onone)) anil))) (.tp [2, 3]) b_Z4_f0) (mret (m2 eqSD (mcall m_Z8 (acons (mvar 0) anil)) (call1 max2F (acons (mc (.int 0)) (acons (m2 subD (mlen (bvar 0)) (mc (.int 2))) anil))))))
def m_Z4 : MF := runB 4 b_Z4
def b_Z7 : MS := (mseq (mexpr (mcall m_Z1 (acons (mvar 1) anil))) (mret (mand (mcall m_Z5 (acons (mvar 0) (acons (mvar 2) anil))) (mcall m_Z4 (acons (mlst (mcomp [none, some 0] (aslst (mvar 2)) (.nm 0) cyes (mix (bvar 1) (mvar 0)))) (acons (mvar 1) anil))))))
def m_Z7 : MF := runB 3 b_Z7
def b_Z15_f0 : MS := (mseq (mset 6 (m2 subD (mix (bvar 0) (mvar 5)) (mix (bvar 0) (mvar 4)))) (mseq (mif (cand (mtest (m2 geD (mvar 6) (mvar 1))) (mtest (m2 geD (mlen (aslst (mix (bvar 3) (mvar 5)))) (mlen (aslst (mix (bvar 2) (mvar 4))))))) (msetix 2 (mvar 4) (mlst (mcat (sized (acons (mvar 4) anil)) (aslst (mix (bvar 3) (mvar 5)))))) mnext) (mif (cand (mtest (m2 geD (m1 negD (mvar 6)) (mvar 1))) (mtest (m2 geD (mlen (aslst (mix (bvar 2) (mvar 5)))) (mlen (aslst (mix (bvar 3) (mvar 4))))))) (msetix 3 (mvar 4) (mlst (mcat (sized (acons (mvar 4) anil)) (aslst (mix (bvar 2) (mvar 5)))))) mnext)))
def b_Z15_f1 : MS := (mfor (mlist rng2 (acons (m2 addD (mvar 4) (mc (.int 1))) (acons (mlen (bvar 0)) anil))) (.nm 5) b_Z15_f0)
def b_Z15_r2 : MS := (mfreeze 2 (mfreeze 3 (mret (mtup (acons (mvar 2) (acons (mvar 3) anil))))))
def b_Z15 : MS := (mseq (msetF 2 (mcomp [none] (mlist rng1 (acons (mlen (bvar 0)) anil)) (.nm 0) cyes (mlst (sized (acons (mvar 0) anil))))) (mseq (msetF 3 (mcomp [none] (mlist rng1 (acons (mlen (bvar 0)) anil)) (.nm 0) cyes (mlst (sized (acons (mvar 0) anil))))) (mseq (mfor (mlist rngD (acons (mlen (bvar 0)) anil)) (.nm 4) b_Z15_f1) b_Z15_r2)))
def m_Z15 : MF := runB 7 b_Z15
def b_Z0 : MS := (mret (mtup (acons (m1 negD (mlen (bvar 0))) (acons (mvar 0) anil))))
def m_Z0 : MF := runB 1 b_Z0
def b_Z13 : MS := (mseq (mexpr (mcall m_Z1 (acons (mvar 1) anil))) (mseq (masg (.tp [2, 3]) (mcall m_Z15 (acons (mvar 0) (acons (mvar 1) anil)))) (mret (mminK (fun d => shOf (m_Z0 [d])) (aslst (m2 addD (mvar 2) (mvar 3))) (mlst (sized anil))))))
def m_Z13 : MF := runB 4 b_Z13
def b_Z10 : MS := (mret (mlen (aslst (mcall m_Z13 (acons (mvar 0) (acons (mvar 1) anil))))))
def m_Z10 : MF := runB 2 b_Z10
def b_Z11 : MS := (mseq (mif (mtest (m2 geD (mvar 0) (m2 powD (mc (.int 10)) (mc (.int 18))))) (mret (m2 modD (m2 shrD (m2 subD (mvar 0) (m2 powD (mc (.int 10)) (mc (.int 18)))) (m2 mulD (mc (.int 28)) (mvar 1))) (m2 powD (mc (.int 2)) (mc (.int 28))))) mnext) (mseq (mset 2 (m2 modD (m2 mulD (m2 addD (m2 addD (mvar 0) (m2 mulD (mc (.int 1013)) (mvar 1))) (mc (.int 1))) (mc (.int 16807))) (mc (.int 2147483647)))) (mseq (mset 2 (m2 modD (m2 mulD (mvar 2) (mvar 2)) (mc (.int 2147483629)))) (mret (m2 fdivD (m2 modD (m2 mulD (mvar 2) (mc (.int 39373))) (mc (.int 2147483587))) (mc (.int 8)))))))
def m_Z11 : MF := runB 3 b_Z11
def b_Z6 : MS := (mretF (mcut (mcat (mcut (bvar 0) onone (osome (mvar 1))) (sized (acons (mc (.int 0)) anil))) onone (osome (call1 max2F (acons (mc (.int 1)) (acons (call1 min2F (acons (mvar 1) (acons (mlen (bvar 0)) anil))) anil))))))
def m_Z6 : MF := runB 2 b_Z6
def b_Z14_f0 : MS := (mseq (mset 9 (m2 modD (mcall m_Z11 (acons (mvar 0) (acons (m2 addD (mc (.int 10)) (mvar 8)) anil))) (mvar 4))) (mseq (mset 7 (m2 subD (m2 addD (mvar 7) (mvar 9)) (m2 fdivD (mvar 4) (mc (.int 2))))) (mseq (mset 10 (mlst (sized (acons (m2 subD (mvar 9) (m2 fdivD (mvar 4) (mc (.int 2)))) (acons (m2 addD (mvar 8) (m2 fdivD (mvar 9) (mc (.int 2)))) (acons (m2 subD (m2 subD (mc (.int 0)) (mvar 8)) (m2 fdivD (mvar 9) (mc (.int 2)))) (acons (mix (sized (acons (mvar 9) (acons (m2 subD (mc (.int 0)) (mvar 9)) anil))) (m2 modD (mvar 8) (mc (.int 2)))) anil))))))) (mseq (mset 10 (mlst (mcat (bvar 10) (sized (acons (m2 addD (mvar 9) (m2 mulD (m2 modD (m2 fdivD (mvar 8) (mvar 5)) (mc (.int 2))) (mvar 4))) (acons (mvar 4) (acons (m2 addD (m2 mulD (m2 subD (mvar 9) (m2 fdivD (mvar 4) (mc (.int 2)))) (m2 powD (mc (.int 10)) (mc (.int 23)))) (m2 modD (mcall m_Z11 (acons (mvar 0) (acons (m2 addD (mc (.int 10)) (mvar 8)) anil))) (mc (.int 3)))) anil))))))) (mapp 6 (mix (mcat (bvar 10) (sized (acons (mvar 7) anil))) (mvar 3)))))))
def b_Z14 : MS := (mseq (mset 2 (m2 modD (mcall m_Z11 (acons (mvar 0) (acons (mc (.int 0)) anil))) (mix (sized (acons (mc (.int 4)) (acons (mc (.int 13)) (acons (mc (.int 41)) (acons (m2 addD (mvar 1) (mc (.int 1))) anil))))) (m2 modD (mcall m_Z11 (acons (mvar 0) (acons (mc (.int 1)) anil))) (mc (.int 4)))))) (mseq (mset 3 (m2 modD (mcall m_Z11 (acons (mvar 0) (acons (mc (.int 2)) anil))) (mc (.int 8)))) (mseq (mset 4 (mix (sized (acons (mc (.int 2)) (acons (mc (.int 5)) (acons (mc (.int 50)) (acons (m2 powD (mc (.int 10)) (mc (.int 6))) anil))))) (m2 modD (mcall m_Z11 (acons (mvar 0) (acons (mc (.int 3)) anil))) (mc (.int 4))))) (mseq (mset 5 (m2 addD (mc (.int 1)) (m2 modD (mcall m_Z11 (acons (mvar 0) (acons (mc (.int 4)) anil))) (mc (.int 9))))) (mseq (msetF 6 (sized anil)) (mseq (mset 7 (mc (.int 0))) (mseq (mfor (mlist rng1 (acons (call1 min2F (acons (mvar 2) (acons (mvar 1) anil))) anil)) (.nm 8) b_Z14_f0) (mretO 6))))))))
def m_Z14 : MF := runB 11 b_Z14
def b_Z3 : MS := (mseq (mif (mtru (misi "str" (mvar 1))) (mret (mand (misi "str" (mvar 0)) (m2 eqSD (mvar 0) (mvar 1)))) mnext) (mseq (mif (mtru (misi2 "list" "tuple" (mvar 1))) (mseq (mif (cor (mtest (m2 neSD (misi "list" (mvar 0)) (misi "list" (mvar 1)))) (cnot (mtru (misi2 "list" "tuple" (mvar 0))))) (mret (mc (.bl false))) mnext) (mseq (mif (mtest (m2 neSD (call1 lenF (acons (mvar 0) anil)) (call1 lenF (acons (mvar 1) anil)))) (mret (mc (.bl false))) mnext) mnever)) mnext) (mret (mand (misi "int" (mvar 0)) (mand (m1 notD (misi "bool" (mvar 0))) (m2 eqSD (mvar 0) (mvar 1)))))))
def m_Z3 : MF := runB 2 b_Z3
def b_Z2 : MS := (mseq (mif (mtru (misi "str" (mvar 1))) (mret (mand (misi "str" (mvar 0)) (m2 eqSD (mvar 0) (mvar 1)))) mnext) (mseq (mif (mtru (misi2 "list" "tuple" (mvar 1))) (mseq (mif (cor (mtest (m2 neSD (misi "list" (mvar 0)) (misi "list" (mvar 1)))) (cnot (mtru (misi2 "list" "tuple" (mvar 0))))) (mret (mc (.bl false))) mnext) (mseq (mif (mtest (m2 neSD (call1 lenF (acons (mvar 0) anil)) (call1 lenF (acons (mvar 1) anil)))) (mret (mc (.bl false))) mnext) (mret (meqB false (mcomp [none, none] (mlist zip2 (acons (mvar 0) (acons (mvar 1) anil))) (.tp [0, 1]) (cnot (mtru (mcall m_Z3 (acons (mvar 0) (acons (mvar 1) anil))))) (mc (.int 1))) (sized anil))))) mnext) (mret (mand (misi "int" (mvar 0)) (mand (m1 notD (misi "bool" (mvar 0))) (m2 eqSD (mvar 0) (mvar 1)))))))
def m_Z2 : MF := runB 2 b_Z2
def b_Z9_f0 : MS := (mseq (mif (cor (mtest (m2 leD (mvar 5) (mvar 3))) (mtest (m2 geD (mvar 5) (mlen (bvar 0))))) (mret (mc (.bl false))) mnext) (mseq (mif (mtest (m2 gtD (mvar 3) (m1 negD (mc (.int 1))))) (mseq (mset 6 (m2 subD (mix (bvar 0) (mvar 5)) (mix (bvar 0) (mvar 3)))) (mseq (mif (cor (mtest (m2 ltD (call1 absF (acons (mvar 6) anil)) (mvar 1))) (mtest (m2 eqSD (mix (bvar 4) (m1 negD (mc (.int 1)))) (m2 gtD (mvar 6) (mc (.int 0)))))) (mret (mc (.bl false))) mnext) (mapp 4 (m2 gtD (mvar 6) (mc (.int 0)))))) mnext) (mset 3 (mvar 5))))
def b_Z9 : MS := (mseq (mset 3 (m1 negD (mc (.int 1)))) (mseq (msetF 4 (sized (acons (mc .non) anil))) (mseq (mfor (aslst (mvar 2)) (.nm 5) b_Z9_f0) (mret (mc (.bl true))))))
def m_Z9 : MF := runB 7 b_Z9
def b_Z12_f0 : MS := (mapp 1 (mlst (mcomp [none, some 2] (mlist rng1 (acons (mvar 0) anil)) (.nm 0) (mtest (m2 eqSD (m2 andD (m2 shrD (mvar 1) (mvar 0)) (mc (.int 1))) (mc (.int 1)))) (mvar 0))))
def b_Z12 : MS := (mseq (msetF 1 (sized anil)) (mseq (mfor (mlist rng1 (acons (m2 shlD (mc (.int 1)) (mvar 0)) anil)) (.nm 2) b_Z12_f0) (mretO 1)))
def m_Z12 : MF := runB 3 b_Z12
def b_Z16_f0 : MS := (mset 3 (mlst (mcat (bvar 3) (mcomp [none, some 4] (aslst (mlst (mcut (bvar 2) (osome (m1 negD (mc (.int 3)))) onone))) (.nm 0) cyes (call1 max2F (acons (mc (.int 1)) (acons (call1 absF (acons (m2 subD (mvar 1) (mvar 0)) anil)) anil)))))))
def b_Z16_f1 : MS := (mseq (mset 6 (mlst (mcomp [none, some 2, some 5] (aslst (mcall m_Z12 (acons (mlen (bvar 2)) anil))) (.nm 0) (mtru (mcall m_Z9 (acons (mvar 1) (acons (mvar 2) (acons (mvar 0) anil))))) (mvar 0)))) (mseq (mset 7 (mmaxL (mcomp [none] (aslst (mvar 6)) (.nm 0) cyes (mlen (bvar 0))))) (mseq (mset 8 (mminP (mcomp [none, some 7] (aslst (mvar 6)) (.nm 0) (mtest (m2 eqSD (mlen (bvar 0)) (mvar 1))) (mvar 0)))) (mseq (mif (cor (cnot (mtru (mcall m_Z2 (acons (mcall m_Z13 (acons (mvar 2) (acons (mvar 5) anil))) (acons (mvar 8) anil))))) (mtest (m2 neSD (mcall m_Z10 (acons (mvar 2) (acons (mvar 5) anil))) (mvar 7)))) (mret (mc (.bl false))) mnext) (mif (cnot (mtru (mcall m_Z7 (acons (mvar 2) (acons (mvar 5) (acons (mvar 8) anil)))))) (mret (mc (.bl false))) mnext)))))
def b_Z16_f2 : MS := (mseq (mset 2 (mcall m_Z14 (acons (mvar 1) (acons (mc (.int 9)) anil)))) (mseq (mset 3 (mlst (sized (acons (mc (.int 1)) (acons (m2 addD (mc (.int 2)) (m2 modD (mcall m_Z11 (acons (mvar 1) (acons (mc (.int 320)) anil))) (mc (.int 1000)))) anil))))) (mseq (mfor (aslst (mlst (mcut (bvar 2) onone (osome (mc (.int 3)))))) (.nm 4) b_Z16_f0) (mfor (aslst (mlst (mcat (mcut (msortSet (bvar 3)) onone (osome (mc (.int 4)))) (sized (acons (m2 addD (mmaxL (bvar 3)) (mc (.int 1))) anil))))) (.nm 5) b_Z16_f1))))
def b_Z16 : MS := (mseq (mfor (aslst (mcall m_Z6 (acons (mvar 0) (acons (mc (.int 4)) anil)))) (.nm 1) b_Z16_f2) (mret (mc (.bl true))))
def m_Z16 : MF := runB 9 b_Z16
end
end
section
theorem eqS_ii (i j : Int) : eqS (.int i) (.int j) = some (i == j) := rfl
theorem eqS_bb (i j : Bool) : eqS (.bl i) (.bl j) = some (i == j) := rfl
theorem eqS_ss (i j : Str) : eqS (.str i) (.str j) = some (i == j) := rfl
theorem eqS_nn : eqS .non .non = some true := rfl
theorem eqS_nb (j : Bool) : eqS .non (.bl j) = some false := rfl
theorem eqS_bn (j : Bool) : eqS (.bl j) .non = some false := rfl
theorem eqS_ni (j : Int) : eqS .non (.int j) = some false := rfl
theorem eqS_in (j : Int) : eqS (.int j) .non = some false := rfl
local macro_rules | `(tactic| simp_arith [$ls,*]) => `(tactic| simp (config := {decide := true, implicitDefEqProofs := false}) only [runB, startS, map_cons, map_nil, length_cons, length_nil, List.replicate, cons_append, nil_append, mvar, bvar, mc, mlst, aslst, m2, mtest, subD, mulD, fdivD, modD, powD, shlD, shrD, andD, ltD, leD, gtD, geD, eqSD, neSD, eqS_ii, eqS_bb, eqS_ss, eqS_nn, eqS_nb, eqS_bn, eqS_ni, eqS_in, m1, negD, notD, mand, mtru, truD, cand, cor, cnot, anil, acons, sized, mtup, mlen, mix, onone, osome, mcut, mcat, addD, call1, lenF, absF, max2F, min2F, two2, intF, mnext, mseq, mif, mnever, mset, msetF, maug, mexpr, mret, mretF, mretO, mapp, msetix, mfreeze, masg, mlist, zip2, zip3, cyes, mcall, meqB, misi, tyD, int2, bl2, tgD, setAll, Option.bind_some, Option.map_some, Option.bind_none, Option.map_none, getElem?_cons_zero, getElem?_cons_succ, set_cons_zero, set_cons_succ, isEmpty_cons, isEmpty_nil, Bool.not_true, Bool.not_false, $ls,*])
def stir (c k : Int) : Int := if 10 ^ 18 <= c then (c - 10 ^ 18) / 2 ^ (28 * k).toNat % 2 ^ 28 else
 (((c + 1013 * k + 1) * 16807 % 2147483647) * ((c + 1013 * k + 1) * 16807 % 2147483647) % 2147483629) * 39373 % 2147483587 / 8
theorem mulOk_r (i j : Int) (h1 : -(2 ^ 64) < j) (h2 : j < 2 ^ 64) : mulOk i j = true := by
 unfold mulOk; simp only [h1, h2, decide_true, Bool.and_self, Bool.or_true]
theorem mulOk_l (i j : Int) (h1 : -(2 ^ 64) < i) (h2 : i < 2 ^ 64) : mulOk i j = true := by
 unfold mulOk; simp only [h1, h2, decide_true, Bool.and_self, Bool.true_or]
theorem modOk_of (i j : Int) (h : 0 < j) : modOk i j = true := by unfold modOk; simp only [h, decide_true]
theorem seqI {x y : MS} {ρ ρ' : Ro} {o : Option Out} (h : x ρ = some (.nx ρ')) (h2 : y ρ' = o) : mseq x y ρ = o := by
 unfold mseq; rw [h]; exact h2
def stepO {α : Type} (I : List α -> Ro -> Prop) (Q : Out -> Prop) (ds : List α) : Out -> Prop
 | .nx ρ => I ds ρ | .ct ρ => I ds ρ | .bk ρ => Q (.nx ρ) | .rt d => Q (.rt d) | .rf es => Q (.rf es) | .rp d es => Q (.rp d es) | .rg d p r => Q (.rg d p r) | .rgf d p r => Q (.rgf d p r)
theorem forD_post {α : Type} {g : Tg} {body : MS} {f : α -> D} (I : List α -> Ro -> Prop) (Q : Out -> Prop)
  (hs : ∀ d ds ρ, I (d :: ds) ρ -> ∃ ρ1 o, tgD g (f d) ρ = some ρ1 /\ body ρ1 = some o /\ stepO I Q ds o) (hd : ∀ ρ, I [] ρ -> Q (.nx ρ)) :
  ∀ (ds : List α) (ρ : Ro), I ds ρ -> ∃ o, forD g body (ds.map f) ρ = some o /\ Q o
 | [], ρ, h => ⟨.nx ρ, rfl, hd ρ h⟩
 | d :: ds, ρ, h => by
  obtain ⟨ρ1, o, h1, h2, h3⟩ := hs d ds ρ h
  rw [map_cons]
  unfold forD
  rw [h1]
  simp only [h2]
  cases o with
  | nx ρ2 => exact forD_post I Q hs hd ds ρ2 h3
  | ct ρ2 => exact forD_post I Q hs hd ds ρ2 h3
  | bk ρ2 => exact ⟨_, rfl, h3⟩
  | rt d => exact ⟨_, rfl, h3⟩
  | rf d => exact ⟨_, rfl, h3⟩
  | rp d es => exact ⟨_, rfl, h3⟩
  | rg d p r => exact ⟨_, rfl, h3⟩
  | rgf d p r => exact ⟨_, rfl, h3⟩
theorem compD_map {α : Type} {g : Tg} {c : MB} {elt : ME} {f : α -> D} {G : α -> D} (I : List α -> Ro -> Prop)
  (hs : ∀ d ds ρ, I (d :: ds) ρ -> ∃ ρ1, tgD g (f d) ρ = some ρ1 /\ c ρ1 = some true /\ elt ρ1 = some (G d) /\ I ds ρ1) :
  ∀ (ds : List α) (ρ : Ro) (acc : List D), I ds ρ -> acc.length + ds.length <= sizeLine -> compD g c elt (ds.map f) ρ acc = some (acc ++ ds.map G)
 | [], ρ, acc, h, hl => by simp [compD]
 | d :: ds, ρ, acc, h, hl => by
  obtain ⟨ρ1, h1, h2, h3, h4⟩ := hs d ds ρ h
  rw [map_cons]
  unfold compD
  rw [h1]
  simp only [h2, h3]
  rw [length_cons] at hl
  rw [if_pos (by omega), compD_map I hs ds ρ1 _ h4 (by simp; omega)]
  simp
def cutI {α : Type} (xs : List α) (lo hi : Option Int) : List α := (xs.drop (HT.sIx xs.length 0 lo)).take (HT.sIx xs.length xs.length hi - HT.sIx xs.length 0 lo)
theorem cutL_map {α : Type} (f : α -> D) (xs : List α) (lo hi : Option Int) : cutL (xs.map f) lo hi = (cutI xs lo hi).map f := by
 unfold cutL cutI; rw [length_map, <- map_drop, <- map_take]
theorem cutI_from {α : Type} (xs : List α) (k : Nat) : cutI xs (some (k : Int)) none = xs.drop k := by
 unfold cutI
 rw [HT.sIx_nat, HT.sIx_none]
 rcases Nat.le_total k xs.length with h | h
 ·rw [Nat.min_eq_left h]; exact take_of_length_le (by simp)
 ·rw [Nat.min_eq_right h]; simp [drop_eq_nil_of_le h]
theorem cutI_to {α : Type} (xs : List α) (k : Nat) : cutI xs none (some (k : Int)) = xs.take k := by
 unfold cutI
 rw [HT.sIx_nat, HT.sIx_none]
 simp
theorem atI_map {α : Type} (f : α -> D) (xs : List α) (k : Int) (h0 : 0 <= k) (h1 : k < xs.length) (dflt : α) : atI (xs.map f) k = some (f (xs.getD k.toNat dflt)) := by
 unfold atI ixN
 rw [length_map, if_pos h0, if_pos h1]
 have hl : k.toNat < xs.length := by omega
 simp [getElem?_map, hl]
theorem atI_last {α : Type} (f : α -> D) (xs : List α) (x : α) : atI ((xs ++ [x]).map f) (-1) = some (f x) := by
 unfold atI ixN
 rw [length_map, if_neg (by decide), if_pos (by simp; omega)]
 have e : (-1 + ((xs ++ [x]).length : Int)).toNat = xs.length := by simp; omega
 rw [e]
 simp
theorem runB_rt {n : Nat} {m : MS} {ds : List D} {d : D} (h : m (startS n ds) = some (.rt d)) : runB n m ds = some (.sh d) := by unfold runB; rw [h]
theorem runB_rf {n : Nat} {m : MS} {ds : List D} {d : List D} (h : m (startS n ds) = some (.rf d)) : runB n m ds = some (.fr d) := by unfold runB; rw [h]
def after (rest : MS) : Out -> Option Out
 | .nx ρ => rest ρ | .bk ρ => some (.bk ρ) | .ct ρ => some (.ct ρ) | .rt d => some (.rt d) | .rf d => some (.rf d) | .rp d es => some (.rp d es) | .rg d p r => some (.rg d p r) | .rgf d p r => some (.rgf d p r)
theorem seq_after {x y : MS} {ρ : Ro} {o : Out} (h : x ρ = some o) : mseq x y ρ = after y o := by
 unfold mseq; rw [h]; cases o <;> rfl
theorem seq_for {α : Type} {mi : ML} {g : Tg} {body rest : MS} {ρ : Ro} {res : Option Out} {f : α -> D} (ds : List α) (hi : mi ρ = some (ds.map f)) (I : List α -> Ro -> Prop) (Q : Out -> Prop) (h0 : I ds ρ)
  (hs : ∀ d ds ρ, I (d :: ds) ρ -> ∃ ρ1 o, tgD g (f d) ρ = some ρ1 /\ body ρ1 = some o /\ stepO I Q ds o) (hd : ∀ ρ, I [] ρ -> Q (.nx ρ)) (hq : ∀ o, Q o -> after rest o = res) : mseq (mfor mi g body) rest ρ = res := by
 obtain ⟨o, e, q⟩ := forD_post (g := g) (body := body) I Q hs hd ds ρ h0
 rw [seq_after (o := o) (by unfold mfor; rw [hi]; exact e)]
 exact hq o q
theorem max_if (i j : Int) : (if j > i then j else i) = max i j := by omega
theorem min_if (i j : Int) : (if j < i then j else i) = min i j := by omega
theorem abs_if (i : Int) : (if i < 0 then -i else i) = (i.natAbs : Int) := by omega
theorem size_big : 1000000 <= sizeLine := by rw [show sizeLine = 2 ^ 24 from rfl]; decide
theorem le_size {n : Nat} (h : n <= 1000000) : n <= sizeLine := Nat.le_trans h size_big
theorem range_cons (j n : Nat) (h : j < n) : List.range' j (n - j) = j :: List.range' (j + 1) (n - (j + 1)) := by
 have : n - j = (n - (j + 1)) + 1 := by omega
 rw [this, range'_succ]
theorem seq_forN {mi : ML} {g : Tg} {body rest : MS} {ρ : Ro} {res : Option Out} {f : Nat -> D} (n : Nat) (hi : mi ρ = some ((List.range n).map f)) (I : Nat -> Ro -> Prop) (Q : Out -> Prop) (h0 : I 0 ρ)
  (hs : ∀ j ρ, j < n -> I j ρ -> ∃ ρ1 o, tgD g (f j) ρ = some ρ1 /\ body ρ1 = some o /\ stepO (fun (_ : List Unit) ρ => I (j + 1) ρ) Q [] o) (hd : ∀ ρ, I n ρ -> Q (.nx ρ)) (hq : ∀ o, Q o -> after rest o = res) : mseq (mfor mi g body) rest ρ = res := by
 refine seq_for (List.range n) hi (I := fun ks ρ => ∃ j, j <= n /\ ks = List.range' j (n - j) /\ I j ρ) (Q := Q) ⟨0, by omega, by rw [range_eq_range']; rfl, h0⟩ ?_ ?_ hq
 ·rintro d ds ρ ⟨j, hj, e, h⟩
  have hlt : j < n := by
   rcases Nat.lt_or_ge j n with z | z
   ·exact z
   ·rw [show n - j = 0 by omega] at e; cases e
  rw [range_cons j n hlt] at e
  obtain ⟨e1, e2⟩ := List.cons.inj e
  subst e1
  obtain ⟨ρ1, o, a1, a2, a3⟩ := hs d ρ hlt h
  refine ⟨ρ1, o, a1, a2, ?_⟩
  cases o with
  | nx r => exact ⟨d + 1, by omega, e2, a3⟩
  | ct r => exact ⟨d + 1, by omega, e2, a3⟩
  | bk r => exact a3
  | rt r => exact a3
  | rf r => exact a3
  | rp r r2 => exact a3
  | rg r r2 r3 => exact a3
  | rgf r r2 r3 => exact a3
 ·rintro ρ ⟨j, hj, e, h⟩
  have : n - j = 0 := by
   rcases Nat.eq_zero_or_pos (n - j) with z | z
   ·exact z
   ·rw [range_cons j n (by omega)] at e; cases e
  have : j = n := by omega
  subst this
  exact hd ρ h
theorem mod_cases {x n : Int} (hn : 0 < n) : 0 <= x % n /\ x % n < n := ⟨Int.emod_nonneg _ (by omega), Int.emod_lt_of_pos _ hn⟩
def Run (m : MS) (ρ : Ro) (R : Out -> Prop) : Prop := ∃ o, m ρ = some o /\ R o
def afterR (rest : MS) (R : Out -> Prop) : Out -> Prop
 | .nx ρ => Run rest ρ R | .bk ρ => R (.bk ρ) | .ct ρ => R (.ct ρ) | .rt d => R (.rt d) | .rf d => R (.rf d) | .rp d es => R (.rp d es) | .rg d p r => R (.rg d p r) | .rgf d p r => R (.rgf d p r)
theorem run_seq {x y : MS} {ρ ρ' : Ro} {R : Out -> Prop} (h : x ρ = some (.nx ρ')) (h2 : Run y ρ' R) : Run (mseq x y) ρ R := by
 obtain ⟨o, e, r⟩ := h2
 exact ⟨o, seqI h e, r⟩
theorem run_mseq {x y : MS} {ρ : Ro} {R : Out -> Prop} (h : Run x ρ (afterR y R)) : Run (mseq x y) ρ R := by
 obtain ⟨o, e, r⟩ := h
 cases o with
 | nx ρ' => exact run_seq e r
 | bk ρ' => exact ⟨_, seq_after e, r⟩
 | ct ρ' => exact ⟨_, seq_after e, r⟩
 | rt d => exact ⟨_, seq_after e, r⟩
 | rf d => exact ⟨_, seq_after e, r⟩
 | rp d es => exact ⟨_, seq_after e, r⟩
 | rg d p' r' => exact ⟨_, seq_after e, r⟩
 | rgf d p' r' => exact ⟨_, seq_after e, r⟩
theorem run_for {α : Type} {mi : ML} {g : Tg} {body : MS} {ρ : Ro} {f : α -> D} (ds : List α) (hi : mi ρ = some (ds.map f)) (I : List α -> Ro -> Prop) (Q : Out -> Prop) (h0 : I ds ρ)
  (hs : ∀ d ds ρ, I (d :: ds) ρ -> ∃ ρ1, tgD g (f d) ρ = some ρ1 /\ Run body ρ1 (stepO I Q ds)) (hd : ∀ ρ, I [] ρ -> Q (.nx ρ)) : Run (mfor mi g body) ρ Q := by
 obtain ⟨o, e, q⟩ := forD_post (g := g) (body := body) I Q (fun d ds ρ h => by obtain ⟨ρ1, a, o, b, c⟩ := hs d ds ρ h; exact ⟨ρ1, o, a, b, c⟩) hd ds ρ h0
 exact ⟨o, by unfold mfor; rw [hi]; exact e, q⟩
theorem run_forN {mi : ML} {g : Tg} {body : MS} {ρ : Ro} {f : Nat -> D} (n : Nat) (hi : mi ρ = some ((List.range n).map f)) (I : Nat -> Ro -> Prop) (Q : Out -> Prop) (h0 : I 0 ρ)
  (hs : ∀ j ρ, j < n -> I j ρ -> ∃ ρ1, tgD g (f j) ρ = some ρ1 /\ Run body ρ1 (stepO (fun (_ : List Unit) ρ => I (j + 1) ρ) Q [])) (hd : ∀ ρ, I n ρ -> Q (.nx ρ)) : Run (mfor mi g body) ρ Q := by
 refine run_for (List.range n) hi (I := fun ks ρ => ∃ j, j <= n /\ ks = List.range' j (n - j) /\ I j ρ) (Q := Q) ⟨0, by omega, by rw [range_eq_range']; rfl, h0⟩ ?_ ?_
 ·rintro d ds ρ ⟨j, hj, e, h⟩
  have hlt : j < n := by
   rcases Nat.lt_or_ge j n with z | z
   ·exact z
   ·rw [show n - j = 0 by omega] at e; cases e
  rw [range_cons j n hlt] at e
  obtain ⟨e1, e2⟩ := List.cons.inj e
  subst e1
  obtain ⟨ρ1, a1, o, a2, a3⟩ := hs d ρ hlt h
  refine ⟨ρ1, a1, o, a2, ?_⟩
  cases o with
  | nx r => exact ⟨d + 1, by omega, e2, a3⟩
  | ct r => exact ⟨d + 1, by omega, e2, a3⟩
  | bk r => exact a3
  | rt r => exact a3
  | rf r => exact a3
  | rp r r2 => exact a3
  | rg r r2 r3 => exact a3
  | rgf r r2 r3 => exact a3
 ·rintro ρ ⟨j, hj, e, h⟩
  have : n - j = 0 := by
   rcases Nat.eq_zero_or_pos (n - j) with z | z
   ·exact z
   ·rw [range_cons j n (by omega)] at e; cases e
  have : j = n := by omega
  subst this
  exact hd ρ h
theorem run_freeze {i : Nat} {m : MS} {ρ : Ro} {ds : List D} {R : Out -> Prop} (h : ρ[i]? = some (some (.own ds))) (h2 : Run m (ρ.set i (some (.sh (.lst ds)))) R) : Run (mfreeze i m) ρ R := by
 obtain ⟨o, e, r⟩ := h2
 exact ⟨o, by unfold mfreeze; rw [h]; exact e, r⟩
theorem run_if {c : MB} {x y : MS} {ρ : Ro} {R : Out -> Prop} {b : Bool} (h : c ρ = some b) (h2 : Run (if b then x else y) ρ R) : Run (mif c x y) ρ R := by
 obtain ⟨o, e, r⟩ := h2
 refine ⟨o, ?_, r⟩
 unfold mif; rw [h]
 cases b <;> exact e
theorem nat_of {x : Int} (h : 0 <= x) : ∃ n : Nat, x = n := ⟨x.toNat, by omega⟩
theorem rangeD_map (lo : Int) (n : Nat) : rangeD lo n = (List.range n).map fun (i : Nat) => D.int (lo + (i : Int)) := rfl
theorem rangeD_li (n : Nat) : rangeD 0 n = ((List.range n).map fun (i : Nat) => (i : Int)).map .int := by
 rw [rangeD_map, map_map]
 apply map_congr_left
 intro i _
 simp
theorem okR_of {j : Int} (h1 : -(2 ^ 62) <= j) (h2 : j < 2 ^ 62) : okR j = true := by unfold okR; simp only [h1, h2, decide_true, Bool.and_self]
theorem rng1_ok {j : Int} (h : okR j = true) : rng1 [.int j] = some (rangeD 0 j.toNat) := by
 unfold rng1
 simp only [h, if_true]
theorem rng2_ok {i j : Int} (h : okR i = true) (h2 : okR j = true) : rng2 [.int i, .int j] = some (rangeD i (j - i).toNat) := by
 unfold rng2
 simp only [h, h2, Bool.and_self, if_true]
theorem runB_rfR {n : Nat} {m : MS} {ds : List D} {P : List D -> Prop} (h : Run m (startS n ds) (fun o => ∃ es, o = .rf es /\ P es)) : ∃ es, runB n m ds = some (.fr es) /\ P es := by
 obtain ⟨o, e, es, rfl, p⟩ := h
 exact ⟨es, runB_rf e, p⟩
theorem run_retO {i : Nat} {ρ : Ro} {ds : List D} {R : Out -> Prop} (h : ρ[i]? = some (some (.own ds))) (h2 : R (.rf ds)) : Run (mretO i) ρ R := ⟨_, by unfold mretO; rw [h], h2⟩
theorem fdivOk_of (i j : Int) (h : 0 < j) (h2 : j < 1073741824) : fdivOk i j = true := by unfold fdivOk; simp only [h, h2, decide_true, Bool.and_self]
theorem at4 (a b c d : Int) (k : Int) (h0 : 0 <= k) (h1 : k < 4) : ∃ x, atI [D.int a, .int b, .int c, .int d] k = some (.int x) /\ (x = a \/ x = b \/ x = c \/ x = d) := by
 have : k = 0 \/ k = 1 \/ k = 2 \/ k = 3 := by omega
 rcases this with h | h | h | h <;> subst h
 ·exact ⟨_, rfl, by simp⟩
 ·exact ⟨_, rfl, by simp⟩
 ·exact ⟨_, rfl, by simp⟩
 ·exact ⟨_, rfl, by simp⟩
theorem at8 (a b c d e f g h : Int) (k : Int) (h0 : 0 <= k) (h1 : k < 8) : ∃ x, atI [D.int a, .int b, .int c, .int d, .int e, .int f, .int g, .int h] k = some (.int x) := by
 have : k = 0 \/ k = 1 \/ k = 2 \/ k = 3 \/ k = 4 \/ k = 5 \/ k = 6 \/ k = 7 := by omega
 rcases this with h | h | h | h | h | h | h | h <;> subst h <;> exact ⟨_, rfl⟩
theorem at2 (a b : Int) (k : Int) (h0 : 0 <= k) (h1 : k < 2) : ∃ x, atI [D.int a, .int b] k = some (.int x) := by
 have : k = 0 \/ k = 1 := by omega
 rcases this with h | h <;> subst h <;> exact ⟨_, rfl⟩
theorem eq_nilF (ds : List D) : eqFD false (.lst ds) (.lst []) = some (.bl ds.isEmpty) := by
 unfold eqFD eqF
 cases ds with
 | nil => rfl
 | cons d ds => rfl
theorem eq_nilT (ds : List D) : eqFD true (.lst ds) (.lst []) = some (.bl (!ds.isEmpty)) := by
 unfold eqFD eqF
 cases ds with
 | nil => rfl
 | cons d ds => rfl
theorem runB_run {n : Nat} {m : MS} {ds : List D} {d : D} (h : Run m (startS n ds) (fun o => o = .rt d)) : runB n m ds = some (.sh d) := by
 obtain ⟨o, e, rfl⟩ := h
 exact runB_rt e
theorem mcall_fr {f : MF} {m : ML} {ρ : Ro} {ds es : List D} (h : m ρ = some ds) (h2 : f ds = some (.fr es)) : mcall f m ρ = some (.lst es) := by
 unfold mcall; rw [h]; show (match f ds with | some (.sh d) => some d | some (.fr es) => some (D.lst es) | some (.pr d es) => some (.tup [d, .lst es]) | none => none) = _; rw [h2]
theorem mcall_sh {f : MF} {m : ML} {ρ : Ro} {ds : List D} {d : D} (h : m ρ = some ds) (h2 : f ds = some (.sh d)) : mcall f m ρ = some d := by
 unfold mcall; rw [h]; show (match f ds with | some (.sh d) => some d | some (.fr es) => some (D.lst es) | some (.pr d es) => some (.tup [d, .lst es]) | none => none) = _; rw [h2]
theorem acons_ev {x : ME} {r : ML} {ρ : Ro} {d : D} {ds : List D} (h : x ρ = some d) (h2 : r ρ = some ds) : acons x r ρ = some (d :: ds) := by
 unfold acons; rw [h, h2]; rfl
theorem anil_ev {ρ : Ro} : anil ρ = some [] := rfl
theorem at_nat (row : List Int) (i : Nat) (h : i < row.length) : atI (row.map D.int) (i : Int) = some (.int (row.getD i 0)) := by
 have := atI_map D.int row (i : Int) (by omega) (by omega) 0
 rw [Int.toNat_natCast] at this
 exact this
theorem mmaxL_ev {m : ML} {ρ : Ro} {x : Int} {r : List Int} (h : m ρ = some ((x :: r).map .int)) : mmaxL m ρ = some (.int (maxI (x :: r))) := by
 unfold mmaxL; rw [h]; simp only [intsD_map]
theorem compD_filter {α : Type} {g : Tg} {c : MB} {elt : ME} {f : α -> D} {p : α -> Bool} {G : α -> D} (I : List α -> Ro -> Prop)
  (hs : ∀ d ds ρ, I (d :: ds) ρ -> ∃ ρ1, tgD g (f d) ρ = some ρ1 /\ c ρ1 = some (p d) /\ (p d = true -> elt ρ1 = some (G d)) /\ I ds ρ1) :
  ∀ (ds : List α) (ρ : Ro) (acc : List D), I ds ρ -> acc.length + ds.length <= sizeLine -> compD g c elt (ds.map f) ρ acc = some (acc ++ (ds.filter p).map G)
 | [], ρ, acc, h, hl => by simp [compD]
 | d :: ds, ρ, acc, h, hl => by
  obtain ⟨ρ1, h1, h2, h3, h4⟩ := hs d ds ρ h
  rw [length_cons] at hl
  rw [map_cons]
  unfold compD
  rw [h1]
  simp only [h2]
  cases hp : p d with
  | false =>
   simp only
   rw [compD_filter I hs ds ρ1 acc h4 (by omega), filter_cons, hp]
   rfl
  | true =>
   simp only [h3 hp]
   rw [if_pos (by omega), compD_filter I hs ds ρ1 _ h4 (by simp; omega), filter_cons, hp]
   simp
theorem cor_ev {x y : MB} {ρ : Ro} {a b : Bool} (h1 : x ρ = some a) (h2 : y ρ = some b) : cor x y ρ = some (a || b) := by
 unfold cor; rw [h1]; cases a <;> simp [h2]
theorem cand_ev {x y : MB} {ρ : Ro} {a b : Bool} (h1 : x ρ = some a) (h2 : y ρ = some b) : cand x y ρ = some (a && b) := by
 unfold cand; rw [h1]; cases a <;> simp [h2]
theorem mset_ev {i : Nat} {x : ME} {ρ : Ro} {d : D} (h : x ρ = some d) : mset i x ρ = some (.nx (ρ.set i (some (.sh d)))) := by unfold mset; rw [h]; rfl
theorem mlst_ev {m : ML} {ρ : Ro} {ds : List D} (h : m ρ = some ds) : mlst m ρ = some (.lst ds) := by unfold mlst; rw [h]; rfl
theorem sized_ev {m : ML} {ρ : Ro} {ds : List D} (h : m ρ = some ds) (hz : ds.length <= sizeLine) : sized m ρ = some ds := by
 unfold sized; rw [h]; show (if ds.length <= sizeLine then some ds else none) = _; rw [if_pos hz]
theorem mix_ev {m : ML} {i : ME} {ρ : Ro} {ds : List D} {k : Int} {d : D} (h1 : m ρ = some ds) (h2 : i ρ = some (.int k)) (h3 : atI ds k = some d) : mix m i ρ = some d := by
 unfold mix; rw [h1, h2]; exact h3
theorem eqB_nilD {m : ML} {ρ : Ro} {ds : List D} (h : m ρ = some ds) (neg : Bool) : meqB neg m (sized anil) ρ = some (.bl (if neg then !ds.isEmpty else ds.isEmpty)) := by
 have i0 : 0 <= sizeLine := Nat.zero_le _
 have e : sized anil ρ = some [] := by simp_arith [i0, if_true]
 unfold meqB
 rw [h, e]
 cases neg
 ·simp only [Option.bind_some, eq_nilF]; rfl
 ·simp only [Option.bind_some, eq_nilT]; rfl
theorem aslst_ev {m : ME} {ρ : Ro} {ds : List D} (h : m ρ = some (.lst ds)) : aslst m ρ = some ds := by unfold aslst; rw [h]
theorem mcat_ev {x y : ML} {ρ : Ro} {ds es : List D} (h1 : x ρ = some ds) (h2 : y ρ = some es) (hz : ds.length + es.length <= sizeLine) : mcat x y ρ = some (ds ++ es) := by
 unfold mcat; rw [h1, h2]; show (if ds.length + es.length <= sizeLine then some (ds ++ es) else none) = _; rw [if_pos hz]
theorem mret_ev {x : ME} {ρ : Ro} {d : D} (h : x ρ = some d) : mret x ρ = some (.rt d) := by unfold mret; rw [h]; rfl
theorem ks_ls : kitB "list" "str" = some false := by decide +kernel
theorem ks_is : kitB "int" "str" = some false := by decide +kernel
theorem ks_ll : kitB "list" "list" = some true := by decide +kernel
theorem ks_ii : kitB "int" "int" = some true := by decide +kernel
theorem ks_ib : kitB "int" "bool" = some false := by decide +kernel
theorem k2_i : kitB2 "int" "list" "tuple" = some false := by decide +kernel
theorem k2_l : kitB2 "list" "list" "tuple" = some true := by decide +kernel
theorem zip_self {α : Type} (f : α -> D) : ∀ xs : List α, List.zipWith (fun d e => D.tup [d, e]) (xs.map f) (xs.map f) = xs.map fun x => D.tup [f x, f x]
 | [] => rfl
 | x :: xs => by rw [map_cons, zipWith_cons_cons, zip_self f xs]; rfl
theorem filter_none {α : Type} (xs : List α) : xs.filter (fun _ => false) = [] := by
 induction xs with
 | nil => rfl
 | cons x xs ih => rw [filter_cons]; exact ih
theorem comp_none {α : Type} {f : α -> D} {mi : ML} {c : MB} {ρ : Ro} (xs : List α) (hi : mi ρ = some (xs.map fun x => D.tup [f x, f x])) (hl : xs.length <= 1000) (hc : ∀ x ∈ xs, c [some (.sh (f x)), some (.sh (f x))] = some false) :
  meqB false (mcomp [none, none] mi (.tp [0, 1]) c (mc (.int 1))) (sized anil) ρ = some (.bl true) := by
 have e : mcomp [none, none] mi (.tp [0, 1]) c (mc (.int 1)) ρ = some [] := by
  unfold mcomp
  rw [hi]
  refine (compD_filter (f := fun x => D.tup [f x, f x]) (p := fun _ => false) (G := fun _ => D.int 1) (fun ys ρ => (∀ x ∈ ys, x ∈ xs) /\ ∃ a b, ρ = [a, b])
   (by
    rintro x ds ρ ⟨hx, a, b, rfl⟩
    exact ⟨_, rfl, hc x (hx x (by simp)), fun z => (by cases z), fun y hy => hx y (by simp [hy]), _, _, rfl⟩) xs _ [] ⟨fun _ h => h, none, none, rfl⟩ (le_size (by simp; omega))).trans ?_
  rw [filter_none]; rfl
 rw [eqB_nilD e false]; rfl
section
open PySem L2
def lx : List Nat -> List Nat -> Bool
 | [], [] => false
 | [], _ :: _ => true
 | _ :: _, [] => false
 | a :: l, b :: m => decide (a < b) || (a == b && lx l m)
def ahead (l m : List Nat) : Bool := decide (m.length < l.length) || (l.length == m.length && lx l m)
theorem lx_irr : ∀ l, lx l l = false
 | [] => rfl
 | a :: l => by unfold lx; simp [lx_irr l]
theorem lx_trans : ∀ {a b c : List Nat}, lx a b = true -> lx b c = true -> lx a c = true
 | [], [], _, h, _ => by cases h
 | [], _ :: _, [], _, h => by cases h
 | [], _ :: _, _ :: _, _, _ => rfl
 | _ :: _, [], _, h, _ => by cases h
 | _ :: _, _ :: _, [], _, h => by cases h
 | a :: l, b :: m, c :: k, h1, h2 => by
  unfold lx at *
  simp only [Bool.or_eq_true, Bool.and_eq_true, decide_eq_true_eq, beq_iff_eq] at *
  rcases h1 with h1 | ⟨rfl, h1⟩ <;> rcases h2 with h2 | ⟨rfl, h2⟩
  ·exact .inl (by omega)
  ·exact .inl h1
  ·exact .inl h2
  ·exact .inr ⟨rfl, lx_trans h1 h2⟩
theorem lx_tri : ∀ (a b : List Nat), a = b \/ lx a b = true \/ lx b a = true
 | [], [] => .inl rfl
 | [], _ :: _ => .inr (.inl rfl)
 | _ :: _, [] => .inr (.inr rfl)
 | a :: l, b :: m => by
  unfold lx
  simp only [Bool.or_eq_true, Bool.and_eq_true, decide_eq_true_eq, beq_iff_eq]
  rcases Nat.lt_trichotomy a b with h | h | h
  ·exact .inr (.inl (.inl h))
  ·subst h
   rcases lx_tri l m with h | h | h
   ·exact .inl (by rw [h])
   ·exact .inr (.inl (.inr ⟨rfl, h⟩))
   ·exact .inr (.inr (.inr ⟨rfl, h⟩))
  ·exact .inr (.inr (.inl h))
theorem ahead_iff (l m : List Nat) : ahead l m = true ↔ m.length < l.length \/ (l.length = m.length /\ lx l m = true) := by
 unfold ahead
 simp only [Bool.or_eq_true, Bool.and_eq_true, decide_eq_true_eq, beq_iff_eq]
theorem ahead_trans {a b c : List Nat} (h1 : ahead a b = true) (h2 : ahead b c = true) : ahead a c = true := by
 rw [ahead_iff] at *
 rcases h1 with h1 | ⟨h1, h1'⟩ <;> rcases h2 with h2 | ⟨h2, h2'⟩
 ·exact .inl (by omega)
 ·exact .inl (by omega)
 ·exact .inl (by omega)
 ·exact .inr ⟨by omega, lx_trans h1' h2'⟩
theorem ahead_tri (a b : List Nat) : a = b \/ ahead a b = true \/ ahead b a = true := by
 rw [ahead_iff, ahead_iff]
 rcases Nat.lt_trichotomy a.length b.length with h | h | h
 ·exact .inr (.inr (.inl h))
 ·rcases lx_tri a b with z | z | z
  ·exact .inl z
  ·exact .inr (.inl (.inr ⟨h, z⟩))
  ·exact .inr (.inr (.inr ⟨h.symm, z⟩))
 ·exact .inr (.inl (.inl h))
theorem ahead_irr (a : List Nat) : ahead a a = false := by
 unfold ahead; simp [lx_irr]
theorem ahead_cons (p : Nat) (a b : List Nat) : ahead (p :: a) (p :: b) = ahead a b := by
 unfold ahead
 simp [lx]
def Best (P : List Nat -> Prop) (l : List Nat) : Prop := P l /\ ∀ m, P m -> ahead m l = false
theorem Best.iff {P Q : List Nat -> Prop} {l : List Nat} (a : Best P l) (h : ∀ m, P m ↔ Q m) : Best Q l := ⟨(h l).mp a.1, fun m hm => a.2 m ((h m).mpr hm)⟩
theorem Best.len {P : List Nat -> Prop} {l : List Nat} (a : Best P l) (m : List Nat) (h : P m) : m.length <= l.length := by
 have := a.2 m h
 rcases Nat.lt_or_ge l.length m.length with z | z
 ·rw [(ahead_iff m l).mpr (.inl z)] at this; cases this
 ·exact z
def far (s : Int) (d : Bool) (a b : Int) : Prop := if d then s <= b - a else s <= a - b
instance (s : Int) (d : Bool) (a b : Int) : Decidable (far s d a b) := by unfold far; exact inferInstance
def Wd (x : Nat -> Int) (n : Nat) (s : Int) : Bool -> List Nat -> Prop
 | _, [] => False
 | _, [p] => p < n
 | d, p :: q :: l => p < q /\ far s d (x p) (x q) /\ Wd x n s (!d) (q :: l)
def Wv (x : Nat -> Int) (n : Nat) (s : Int) (l : List Nat) : Prop := l = [] \/ ∃ d, Wd x n s d l
def From (x : Nat -> Int) (n : Nat) (s : Int) (d : Bool) (p t : Nat) (l : List Nat) : Prop := Wd x n s d l /\ (l = [p] \/ ∃ q m, l = p :: q :: m /\ q <= t)
variable {x : Nat -> Int} {n : Nat} {s : Int}
theorem Wd.lt : ∀ {l : List Nat} {d : Bool} {p : Nat}, Wd x n s d (p :: l) -> p < n
 | [], d, p, h => h
 | q :: l, d, p, h => Nat.lt_trans h.1 h.2.2.lt
theorem Wd.len : ∀ {l : List Nat} {d : Bool} {p : Nat}, Wd x n s d (p :: l) -> l.length + p < n
 | [], d, p, h => by have h : p < n := h; simpa using h
 | q :: l, d, p, h => by
  have := h.2.2.len
  have := h.1
  simp; omega
theorem from_one {d : Bool} {p : Nat} (hp : p < n) : Best (From x n s d p p) [p] := by
 refine ⟨⟨hp, .inl rfl⟩, ?_⟩
 rintro m ⟨h1, h2⟩
 rcases h2 with rfl | ⟨q, m, rfl, hq⟩
 ·exact ahead_irr _
 ·have := h1.1; omega
theorem from_step {d : Bool} {p q : Nat} {U T : List Nat} (hq : p < q) (hU : Best (From x n s d p (q - 1)) U) (hT : Best (From x n s (!d) q n) T) (decf : Decidable (far s d (x p) (x q))) :
  Best (From x n s d p q) (if far s d (x p) (x q) /\ U.length <= T.length then p :: T else U) := by
 have hTq : ∃ m, T = q :: m := by
  rcases hT.1.2 with h | ⟨r, m, h, _⟩
  ·exact ⟨_, h⟩
  ·exact ⟨_, h⟩
 have low : ∀ m, From x n s d p (q - 1) m -> From x n s d p q m := fun m h => ⟨h.1, h.2.imp id fun ⟨r, m, e, hr⟩ => ⟨r, m, e, by omega⟩⟩
 have split : ∀ m, From x n s d p q m -> From x n s d p (q - 1) m \/ ∃ k, m = p :: k /\ far s d (x p) (x q) /\ From x n s (!d) q n k := by
  rintro m ⟨h1, h2⟩
  rcases h2 with rfl | ⟨r, m, rfl, hr⟩
  ·exact .inl ⟨h1, .inl rfl⟩
  ·rcases Nat.lt_or_ge r q with z | z
   ·exact .inl ⟨h1, .inr ⟨r, m, rfl, by omega⟩⟩
   ·have : r = q := by omega
    subst this
    refine .inr ⟨_, rfl, h1.2.1, h1.2.2, ?_⟩
    cases m with
    | nil => exact .inl rfl
    | cons t m => exact .inr ⟨t, m, rfl, Nat.le_of_lt h1.2.2.2.2.lt⟩
 obtain ⟨T', eT⟩ := hTq
 split
 ·rename_i h
  refine ⟨⟨?_, ?_⟩, fun m hm => ?_⟩
  ·rw [eT]; exact ⟨hq, h.1, by rw [<- eT]; exact hT.1.1⟩
  ·exact .inr ⟨q, T', by rw [eT], Nat.le_refl _⟩
  ·rcases split m hm with z | ⟨k, rfl, _, z⟩
   ·have := hU.len m z
    cases e : ahead m (p :: T) with
    | false => rfl
    | true =>
     rw [ahead_iff] at e
     simp only [length_cons] at e
     omega
   ·rw [ahead_cons]; exact hT.2 k z
 ·rename_i h
  refine ⟨low _ hU.1, fun m hm => ?_⟩
  rcases split m hm with z | ⟨k, rfl, hf, z⟩
  ·exact hU.2 m z
  ·have hl : ¬ U.length <= T.length := fun w => h ⟨hf, w⟩
   have := hT.len k z
   cases e : ahead (p :: k) U with
   | false => rfl
   | true =>
    rw [ahead_iff] at e
    simp only [length_cons] at e
    rcases e with e | ⟨e1, e2⟩
    ·omega
    ·rcases hU.1.2 with w | ⟨r, m, w, hr⟩
     ·have : k.length = 0 := by rw [w] at e1; simpa using e1
      rcases z.2 with y | ⟨_, _, y, _⟩ <;> (rw [y] at this; simp at this)
     ·have hk : ∃ k', k = q :: k' := by
       rcases z.2 with y | ⟨_, _, y, _⟩
       ·exact ⟨_, y⟩
       ·exact ⟨_, y⟩
      obtain ⟨k', rfl⟩ := hk
      rw [w] at e2
      unfold lx at e2
      simp only [Nat.lt_irrefl, decide_false, beq_self_eq_true, Bool.true_and, Bool.false_or] at e2
      unfold lx at e2
      simp only [Bool.or_eq_true, Bool.and_eq_true, decide_eq_true_eq, beq_iff_eq] at e2
      omega
theorem from_all {d : Bool} {p t : Nat} {l : List Nat} (h : Best (From x n s d p t) l) (ht : n <= t + 1) : Best (From x n s d p n) l :=
 h.iff fun m => ⟨fun a => ⟨a.1, a.2.imp id fun ⟨q, k, e, hq⟩ => ⟨q, k, e, by rw [e] at a; exact Nat.le_of_lt a.1.2.2.lt⟩⟩, fun a => ⟨a.1, a.2.imp id fun ⟨q, k, e, hq⟩ => ⟨q, k, e, by rw [e] at a; have := a.1.2.2.lt; omega⟩⟩⟩
theorem from_skip {d : Bool} {p t t' : Nat} {l : List Nat} (h : Best (From x n s d p t) l) (ht : t = t') : Best (From x n s d p t') l := ht ▸ h
theorem wd_from {d : Bool} {p : Nat} {l : List Nat} (h : Wd x n s d (p :: l)) : From x n s d p n (p :: l) := ⟨h, by
 cases l with
 | nil => exact .inl rfl
 | cons q l => exact .inr ⟨q, l, rfl, Nat.le_of_lt h.2.2.lt⟩⟩
theorem best_all {l : List Nat} {ls : List (List Nat)} (hm : l ∈ ls) (hmin : ∀ m ∈ ls, ahead m l = false) (hw : ∀ m ∈ ls, Wv x n s m) (hall : ∀ d p, p < n -> ∃ m ∈ ls, Best (From x n s d p n) m) (hn : l ≠ []) : Best (Wv x n s) l := by
 refine ⟨hw l hm, fun m h => ?_⟩
 rcases h with rfl | ⟨d, h⟩
 ·cases e : ahead [] l with
  | false => rfl
  | true =>
   rw [ahead_iff] at e
   simp only [length_nil] at e
   rcases e with e | ⟨e, _⟩
   ·omega
   ·exact absurd (List.length_eq_zero_iff.mp e.symm) hn
 ·cases m with
  | nil => exact h.elim
  | cons p m =>
   obtain ⟨k, hk, hb⟩ := hall d p h.lt
   have h1 := hb.2 _ (wd_from h)
   have h2 := hmin k hk
   cases e : ahead (p :: m) l with
   | false => rfl
   | true =>
    rcases ahead_tri k (p :: m) with z | z | z
    ·rw [<- z, h2] at e; cases e
    ·rw [ahead_trans z e] at h2; cases h2
    ·rw [z] at h1; cases h1
theorem best_none (hn : n = 0) : Best (Wv x n s) [] := by
 refine ⟨.inl rfl, fun m h => ?_⟩
 rcases h with rfl | ⟨d, h⟩
 ·rfl
 ·cases m with
  | nil => exact h.elim
  | cons p m => have := h.lt; omega
end
section
open PySem L2
def dN (p : Nat) : D := .int (p : Int)
def L (l : List Nat) : D := .lst (l.map dN)
def Ky (l : List Nat) : D := .tup [.int (-(l.length : Int)), L l]
theorem eqF_nn (k : Nat) (a b : Nat) : eqF (k + 1) (dN a) (dN b) = some (a == b) := by
 show some ((a : Int) == (b : Int)) = _
 congr 1
 rw [Bool.eq_iff_iff, beq_iff_eq, beq_iff_eq]
 omega
theorem zipE_nn (k : Nat) : ∀ (l m : List Nat), l.length = m.length -> zipE (eqF (k + 1)) (l.map dN) (m.map dN) = some (l == m)
 | [], [], _ => rfl
 | [], _ :: _, h => by cases h
 | _ :: _, [], h => by cases h
 | a :: l, b :: m, h => by
  rw [map_cons, map_cons, zipE, eqF_nn, zipE_nn k l m (by simpa using h)]
  rfl
theorem lexF_nn (k : Nat) : ∀ (l m : List Nat), lexF (eqF (k + 1)) (ltF (k + 1)) (l.map dN) (m.map dN) = some (lx l m)
 | [], [] => rfl
 | [], _ :: _ => rfl
 | _ :: _, [] => rfl
 | a :: l, b :: m => by
  rw [map_cons, map_cons, lexF, eqF_nn]
  unfold lx
  by_cases h : a = b
  ·subst h
   simp only [beq_self_eq_true, Nat.lt_irrefl, decide_false, Bool.true_and, Bool.false_or]
   exact lexF_nn k l m
  ·have e : (a == b) = false := by simpa using h
   rw [e]
   simp only [Bool.false_and, Bool.or_false]
   show some (decide ((a : Int) < (b : Int))) = _
   congr 1
   apply decide_eq_decide.mpr
   omega
theorem lt_key (l m : List Nat) : ltF 8 (Ky l) (Ky m) = some (ahead l m) := by
 show lexF (eqF 7) (ltF 7) [.int (-(l.length : Int)), L l] [.int (-(m.length : Int)), L m] = _
 rw [lexF, show eqF 7 (.int (-(l.length : Int))) (.int (-(m.length : Int))) = some (-(l.length : Int) == -(m.length : Int)) from rfl]
 unfold ahead
 by_cases h : l.length = m.length
 ·rw [h]
  simp only [beq_self_eq_true, Nat.lt_irrefl, decide_false, Bool.true_and, Bool.false_or]
  have e : eqF 7 (L l) (L m) = some (l == m) := by
   show (if (l.map dN).length = (m.map dN).length then zipE (eqF 6) (l.map dN) (m.map dN) else some false) = _
   rw [if_pos (by simpa using h), zipE_nn 5 l m h]
  rw [lexF, e]
  by_cases hq : l = m
  ·subst hq
   simp only [beq_self_eq_true]
   rw [lx_irr]; rfl
  ·have e2 : (l == m) = false := by simpa using hq
   rw [e2]
   exact lexF_nn 5 l m
 ·have e : (-(l.length : Int) == -(m.length : Int)) = false := by
   rw [beq_eq_false_iff_ne]; omega
  have e2 : (l.length == m.length) = false := by simpa using h
  rw [e, e2]
  simp only [Bool.false_and, Bool.or_false]
  show some (decide (-(l.length : Int) < -(m.length : Int))) = _
  congr 1
  apply decide_eq_decide.mpr
  omega
theorem min_list {mk : D -> Option D} (hk : ∀ l, mk (L l) = some (Ky l)) : ∀ (ls : List (List Nat)) (b : List Nat), ∃ r, minF mk (ls.map L) (L b) (Ky b) = some (L r) /\ r ∈ b :: ls /\ ∀ m ∈ b :: ls, ahead m r = false
 | [], b => ⟨b, rfl, by simp, by simp [ahead_irr]⟩
 | m :: ls, b => by
  rw [map_cons]
  unfold minF
  rw [hk m]
  simp only [lt_key m b]
  cases h : ahead m b with
  | true =>
   obtain ⟨r, e, h1, h2⟩ := min_list hk ls m
   refine ⟨r, e, mem_cons_of_mem _ h1, fun k hk' => ?_⟩
   rcases List.mem_cons.mp hk' with rfl | hk'
   ·cases z : ahead k r with
    | false => rfl
    | true => have := h2 m (by simp); rw [ahead_trans h z] at this; cases this
   ·exact h2 k hk'
  | false =>
   obtain ⟨r, e, h1, h2⟩ := min_list hk ls b
   refine ⟨r, e, ?_, fun k hk' => ?_⟩
   ·rcases List.mem_cons.mp h1 with h1 | h1
    ·simp [h1]
    ·simp [h1]
   ·have hb := h2 b (by simp)
    rcases List.mem_cons.mp hk' with rfl | hk'
    ·exact hb
    ·rcases List.mem_cons.mp hk' with rfl | hk'
     ·cases z : ahead k r with
      | false => rfl
      | true =>
       rcases ahead_tri k b with w | w | w
       ·rw [w, hb] at z; cases z
       ·rw [h] at w; cases w
       ·rw [ahead_trans w z] at hb; cases hb
     ·exact h2 k (mem_cons_of_mem _ hk')
abbrev xr (row : List Int) : Nat -> Int := fun i => row.getD i 0
def envU (row : List Int) (s : Int) (U V : List (List Nat)) (o4 o5 o6 : Option S) : Ro := [some (.sh (.lst (row.map .int))), some (.sh (.int s)), some (.own (U.map L)), some (.own (V.map L)), o4, o5, o6]
theorem tge_ev {x y : ME} {ρ : Ro} {i j : Int} (h1 : x ρ = some (.int i)) (h2 : y ρ = some (.int j)) : mtest (m2 geD x y) ρ = some (decide (j <= i)) := by
 unfold mtest m2; rw [h1, h2]; rfl
theorem mlen_ev {m : ML} {ρ : Ro} {ds : List D} (h : m ρ = some ds) : mlen m ρ = some (.int ds.length) := by unfold mlen; rw [h]; rfl
theorem at_L (U : List (List Nat)) (p : Nat) (h : p < U.length) : atI (U.map L) (p : Int) = some (L (U.getD p [])) := by
 have := atI_map L U (p : Int) (by omega) (by omega) []
 rw [Int.toNat_natCast] at this
 exact this
theorem ixN_nat (n p : Nat) (h : p < n) : ixN n (p : Int) = some p := by
 unfold ixN
 rw [if_pos (by omega), if_pos (by omega), Int.toNat_natCast]
def upU (s : Int) (row : List Int) (d : Bool) (U V : List (List Nat)) (p q : Nat) : List (List Nat) :=
 if (if d then s <= xr row q - xr row p else s <= xr row p - xr row q) /\ (U.getD p []).length <= (V.getD q []).length then U.set p (p :: V.getD q []) else U
theorem upU_len (s : Int) (row : List Int) (d : Bool) (U V : List (List Nat)) (p q : Nat) : (upU s row d U V p q).length = U.length := by
 unfold upU
 by_cases hc : ((if d then s <= xr row q - xr row p else s <= xr row p - xr row q) /\ (U.getD p []).length <= (V.getD q []).length)
 ·rw [if_pos hc, length_set]
 ·rw [if_neg hc]
theorem upU_ne (s : Int) (row : List Int) (d : Bool) (U V : List (List Nat)) (p q r : Nat) (h : p ≠ r) : (upU s row d U V p q).getD r [] = U.getD r [] := by
 rw [getD_eq_getElem?_getD, getD_eq_getElem?_getD]
 unfold upU
 by_cases hc : ((if d then s <= xr row q - xr row p else s <= xr row p - xr row q) /\ (U.getD p []).length <= (V.getD q []).length)
 ·rw [if_pos hc, getElem?_set_ne h]
 ·rw [if_neg hc]
theorem getD_set_eq (U : List (List Nat)) (p : Nat) (l : List Nat) (h : p < U.length) : (U.set p l).getD p [] = l := by
 rw [getD_eq_getElem?_getD, getElem?_set_self h]; rfl
theorem tails_body (row : List Int) (s : Int) (U V : List (List Nat)) (p q : Nat) (o6 : Option S) (hU : U.length = row.length) (hV : V.length = row.length) (hp : p < row.length) (hq : q < row.length) (bU : (U.getD q []).length <= 1000) (bV : (V.getD q []).length <= 1000) (hpq : p ≠ q) :
  ∃ o6', b_Z15_f0 (envU row s U V (some (.sh (.int (p : Int)))) (some (.sh (.int (q : Int)))) o6) = some (.nx (envU row s (upU s row true U V p q) (upU s row false V U p q) (some (.sh (.int (p : Int)))) (some (.sh (.int (q : Int)))) o6')) := by
 have big := size_big
 have ap := at_nat row p hp
 have aq := at_nat row q hq
 have i1 : 0 + 1 <= sizeLine := le_size (by decide)
 refine ⟨some (.sh (.int (xr row q - xr row p))), ?_⟩
 unfold b_Z15_f0
 refine seqI (ρ' := envU row s U V (some (.sh (.int (p : Int)))) (some (.sh (.int (q : Int)))) (some (.sh (.int (xr row q - xr row p))))) ?_ ?_
 ·unfold envU
  simp_arith [ap, aq]
 have go : ∀ (iU iV : Nat) (A B : List (List Nat)) (ρ : Ro), ρ[iU]? = some (some (.own (A.map L))) -> ρ[iV]? = some (some (.own (B.map L))) -> ρ[4]? = some (some (.sh (.int (p : Int)))) -> ρ[5]? = some (some (.sh (.int (q : Int)))) -> A.length = row.length -> B.length = row.length -> (B.getD q []).length <= 1000 ->
   (mtest (m2 geD (mlen (aslst (mix (bvar iV) (mvar 5)))) (mlen (aslst (mix (bvar iU) (mvar 4))))) ρ = some (decide ((A.getD p []).length <= (B.getD q []).length))) /\
   msetix iU (mvar 4) (mlst (mcat (sized (acons (mvar 4) anil)) (aslst (mix (bvar iV) (mvar 5))))) ρ = some (.nx (ρ.set iU (some (.own ((A.set p (p :: B.getD q [])).map L))))) := by
  intro iU iV A B ρ hA hB h4 h5 lA lB bB
  have eA : bvar iU ρ = some (A.map L) := by unfold bvar; rw [hA]
  have eB : bvar iV ρ = some (B.map L) := by unfold bvar; rw [hB]
  have e4 : mvar 4 ρ = some (.int (p : Int)) := by unfold mvar; rw [h4]
  have e5 : mvar 5 ρ = some (.int (q : Int)) := by unfold mvar; rw [h5]
  have fB : aslst (mix (bvar iV) (mvar 5)) ρ = some ((B.getD q []).map dN) := aslst_ev (mix_ev eB e5 (at_L B q (by omega)))
  have fA : aslst (mix (bvar iU) (mvar 4)) ρ = some ((A.getD p []).map dN) := aslst_ev (mix_ev eA e4 (at_L A p (by omega)))
  constructor
  ·rw [tge_ev (mlen_ev fB) (mlen_ev fA)]
   congr 1
   apply decide_eq_decide.mpr
   rw [length_map, length_map]
   omega
  ·have ev : mlst (mcat (sized (acons (mvar 4) anil)) (aslst (mix (bvar iV) (mvar 5)))) ρ = some (L (p :: B.getD q [])) := by
    rw [mlst_ev (mcat_ev (sized_ev (acons_ev e4 anil_ev) i1) fB (by rw [length_map, length_singleton]; omega))]
    rfl
   unfold msetix
   rw [ev, hA, e4]
   show ((ixN (A.map L).length (p : Int)).map fun j => Out.nx (ρ.set iU (some (.own ((A.map L).set j (L (p :: B.getD q []))))))) = _
   rw [length_map, ixN_nat _ _ (by omega)]
   show some (Out.nx _) = _
   rw [map_set]
 have t1 : ∀ A B o6, mtest (m2 geD (mvar 6) (mvar 1)) (envU row s A B o6 (some (.sh (.int (q : Int)))) (some (.sh (.int (xr row q - xr row p))))) = some (decide (s <= xr row q - xr row p)) := fun A B o6 => tge_ev rfl rfl
 have t2 : ∀ A B o6, mtest (m2 geD (m1 negD (mvar 6)) (mvar 1)) (envU row s A B o6 (some (.sh (.int (q : Int)))) (some (.sh (.int (xr row q - xr row p))))) = some (decide (s <= -(xr row q - xr row p))) := fun A B o6 => tge_ev rfl rfl
 obtain ⟨c1, c2⟩ := go 2 3 U V (envU row s U V (some (.sh (.int (p : Int)))) (some (.sh (.int (q : Int)))) (some (.sh (.int (xr row q - xr row p))))) rfl rfl rfl rfl hU hV bV
 refine seqI (ρ' := envU row s (upU s row true U V p q) V (some (.sh (.int (p : Int)))) (some (.sh (.int (q : Int)))) (some (.sh (.int (xr row q - xr row p))))) ?_ ?_
 ·unfold mif
  rw [cand_ev (t1 _ _ _) c1]
  unfold upU
  by_cases h : s <= xr row q - xr row p /\ (U.getD p []).length <= (V.getD q []).length
  ·rw [if_pos (by simpa using h), decide_eq_true h.1, decide_eq_true h.2]
   exact c2
  ·rw [if_neg (by simpa using h)]
   have : (decide (s <= xr row q - xr row p) && decide ((U.getD p []).length <= (V.getD q []).length)) = false := by
    rw [Bool.eq_false_iff]
    intro z
    rw [Bool.and_eq_true, decide_eq_true_eq, decide_eq_true_eq] at z
    exact h z
   rw [this]
   rfl
 ·have hU' : (upU s row true U V p q).length = row.length := by rw [upU_len]; exact hU
  have gU : (upU s row true U V p q).getD q [] = U.getD q [] := upU_ne _ _ _ _ _ _ _ _ hpq
  obtain ⟨d1, d2⟩ := go 3 2 V (upU s row true U V p q) (envU row s (upU s row true U V p q) V (some (.sh (.int (p : Int)))) (some (.sh (.int (q : Int)))) (some (.sh (.int (xr row q - xr row p))))) rfl rfl rfl rfl hV hU' (by rw [gU]; exact bU)
  rw [gU] at d1 d2
  unfold mif
  rw [cand_ev (t2 _ _ _) d1]
  have ex : upU s row false V U p q = if s <= xr row p - xr row q /\ (V.getD p []).length <= (U.getD q []).length then V.set p (p :: U.getD q []) else V := by
   unfold upU; simp
  rw [ex]
  by_cases h : s <= xr row p - xr row q /\ (V.getD p []).length <= (U.getD q []).length
  ·rw [if_pos h, decide_eq_true (show s <= -(xr row q - xr row p) by omega), decide_eq_true h.2]
   exact d2
  ·rw [if_neg h]
   have : (decide (s <= -(xr row q - xr row p)) && decide ((V.getD p []).length <= (U.getD q []).length)) = false := by
    rw [Bool.eq_false_iff]
    intro z
    rw [Bool.and_eq_true, decide_eq_true_eq, decide_eq_true_eq] at z
    exact h ⟨by omega, z.2⟩
   rw [this]
   rfl
end
section
open PySem L2
theorem refuse_step_eq (step : Int) (h : 1 <= step) : m_Z1 [.int step] = some (.sh .non) := by
 have : ¬ step < 1 := by omega
 unfold m_Z1 b_Z1
 simp_arith [this, decide_false]
def pok (n : Nat) : Int -> List Int -> Bool
 | _, [] => true
 | l, p :: ps => if p < l \/ (n : Int) <= p then false else pok n (p + 1) ps
theorem are_places_eq (row places : List Int) : m_Z5 [.lst (row.map .int), .lst (places.map .int)] = some (.sh (.bl (pok row.length 0 places))) := by
 unfold m_Z5 b_Z5
 refine runB_rt ?_
 ((apply seqI; focus (simp_arith []; rfl)))
 refine seq_for places (f := D.int) (by simp_arith []) (I := fun ps ρ => ∃ l x, ρ = [some (.sh (.lst (row.map .int))), some (.sh (.lst (places.map .int))), some (.sh (.int l)), x] /\ pok row.length 0 places = pok row.length l ps)
  (Q := fun o => (∃ ρ, o = .nx ρ /\ pok row.length 0 places = true) \/ (o = .rt (.bl false) /\ pok row.length 0 places = false)) ⟨0, none, rfl, rfl⟩ ?_ ?_ ?_
 ·rintro p ps ρ ⟨l, x, rfl, e⟩
  simp only [pok] at e
  by_cases h1 : p < l
  ·rw [if_pos (Or.inl h1)] at e
   exact ⟨_, .rt (.bl false), rfl, by unfold b_Z5_f0; simp_arith [length_map, h1, decide_true], Or.inr ⟨rfl, e⟩⟩
  ·by_cases h2 : (row.length : Int) <= p
   ·rw [if_pos (Or.inr h2)] at e
    exact ⟨_, .rt (.bl false), rfl, by unfold b_Z5_f0; simp_arith [length_map, h1, h2, decide_true, decide_false], Or.inr ⟨rfl, e⟩⟩
   ·rw [if_neg (by omega)] at e
    exact ⟨_, .nx _, rfl, by unfold b_Z5_f0; simp_arith [length_map, h1, h2, decide_true, decide_false]; rfl, _, _, rfl, e⟩
 ·rintro ρ ⟨l, x, rfl, e⟩
  exact Or.inl ⟨_, rfl, e⟩
 ·rintro o (⟨ρ, rfl, e⟩ | ⟨rfl, e⟩)
  ·rw [e]; rfl
  ·rw [e]; rfl
def turn (t : Int × Int × Int) : Bool := decide (max t.1 t.2.2 < t.2.1) || decide (t.2.1 < min t.1 t.2.2)
def trip : List Int -> List (Int × Int × Int)
 | a :: b :: c :: r => (a, b, c) :: trip (b :: c :: r)
 | _ => []
theorem zipW3_trip : ∀ ns : List Int, zipW3 (ns.map .int) ((ns.drop 1).map .int) ((ns.drop 2).map .int) = (trip ns).map fun t => .tup [.int t.1, .int t.2.1, .int t.2.2]
 | [] => rfl
 | [_] => rfl
 | [_, _] => rfl
 | a :: b :: c :: r => by
  have := zipW3_trip (b :: c :: r)
  simp only [drop_succ_cons, drop_zero, map_cons] at this
  simp only [drop_succ_cons, drop_zero, map_cons, trip, zipW3, List.cons.injEq, true_and]
  exact this
theorem turns_of_eq (ns : List Int) : m_Z8 [.lst (ns.map .int)] = some (.sh (.int (((trip ns).filter turn).length : Nat))) := by
 unfold m_Z8 b_Z8
 refine runB_rt ?_
 ((apply seqI; focus (simp_arith []; rfl)))
 have h1 : cutI ns (some 1) none = ns.drop 1 := cutI_from ns 1
 have h2 : cutI ns (some 2) none = ns.drop 2 := cutI_from ns 2
 refine seq_for (trip ns) (f := fun t => .tup [.int t.1, .int t.2.1, .int t.2.2]) (by simp_arith [cutL_map, h1, h2, zipW3_trip]) (I := fun ts ρ => ∃ k : Nat, ∃ x y z, ρ = [some (.sh (.lst (ns.map .int))), some (.sh (.int (k : Nat))), x, y, z] /\ ((trip ns).filter turn).length = k + (ts.filter turn).length)
  (Q := fun o => ∃ x y z, o = .nx [some (.sh (.lst (ns.map .int))), some (.sh (.int (((trip ns).filter turn).length : Nat))), x, y, z]) ⟨0, none, none, none, rfl, by simp⟩ ?_ ?_ ?_
 ·rintro ⟨a, b, c⟩ ts ρ ⟨k, x, y, z, rfl, e⟩
  refine ⟨_, .nx [some (.sh (.lst (ns.map .int))), some (.sh (.int ((k + if turn (a, b, c) then 1 else 0 : Nat) : Nat))), some (.sh (.int a)), some (.sh (.int b)), some (.sh (.int c))], rfl, ?_, ?_⟩
  ·unfold b_Z8_f0
   by_cases q1 : max a c < b
   ·have t : turn (a, b, c) = true := by unfold turn; simp [q1]
    simp_arith [max_if, min_if, q1, decide_true, t, if_true]; simp
   ·by_cases q2 : b < min a c
    ·have t : turn (a, b, c) = true := by unfold turn; simp [q2]
     simp_arith [max_if, min_if, q1, q2, decide_true, decide_false, t, if_true]; simp
    ·have t : turn (a, b, c) = false := by unfold turn; simp [q1, q2]
     simp_arith [max_if, min_if, q1, q2, decide_true, decide_false, t, if_true]; simp
  ·refine ⟨_, _, _, _, rfl, ?_⟩
   rw [e, filter_cons]
   split <;> simp_all <;> omega
 ·rintro ρ ⟨k, x, y, z, rfl, e⟩
  exact ⟨x, y, z, by rw [e]; simp⟩
 ·rintro o ⟨x, y, z, rfl⟩
  unfold after
  simp_arith []
def num (row : List Int) (p : Int) : Int := row.getD p.toNat 0
def pairs (ns : List Int) : List (Int × Int) := ns.zip (ns.drop 1)
def farOk (step : Int) (p : Int × Int) : Bool := decide (step <= ((p.2 - p.1).natAbs : Int))
def areW (row : List Int) (step : Int) (places : List Int) : Bool :=
 pok row.length 0 places && ((pairs (places.map (num row))).all (farOk step) && decide ((((trip (places.map (num row))).filter turn).length : Int) = max 0 ((places.length : Int) - 2)))
theorem pok_mem {n : Nat} : ∀ {l : Int} {ps : List Int}, 0 <= l -> pok n l ps = true -> ∀ p ∈ ps, 0 <= p /\ p < n
 | l, [], _, _, p, hp => by simp at hp
 | l, q :: ps, hl, h, p, hp => by
  simp only [pok] at h
  split at h
  ·cases h
  ·rename_i hn
   rcases List.mem_cons.mp hp with rfl | hp
   ·omega
   ·exact pok_mem (by omega) h p hp
theorem zip_pairs : ∀ (as bs : List Int), List.zipWith (fun d e => D.tup [d, e]) (as.map .int) (bs.map .int) = (as.zip bs).map fun p => .tup [.int p.1, .int p.2]
 | [], _ => by simp
 | _ :: _, [] => by simp
 | a :: as, b :: bs => by simp [zip_pairs as bs]
theorem go_by_turns_eq (ns : List Int) (step : Int) : m_Z4 [.lst (ns.map .int), .int step] = some (.sh (.bl ((pairs ns).all (farOk step) && decide ((((trip ns).filter turn).length : Int) = max 0 ((ns.length : Int) - 2))))) := by
 unfold m_Z4 b_Z4
 refine runB_rt ?_
 have c1 : cutI ns (some 1) none = ns.drop 1 := cutI_from _ 1
 refine seq_for (pairs ns) (f := fun p => .tup [.int p.1, .int p.2]) (by simp_arith [cutL_map, c1, zip_pairs]; rfl)
  (I := fun ps ρ => ∃ x y, ρ = [some (.sh (.lst (ns.map .int))), some (.sh (.int step)), x, y] /\ (pairs ns).all (farOk step) = ps.all (farOk step))
  (Q := fun o => (∃ x y, o = .nx [some (.sh (.lst (ns.map .int))), some (.sh (.int step)), x, y] /\ (pairs ns).all (farOk step) = true) \/ (o = .rt (.bl false) /\ (pairs ns).all (farOk step) = false))
  ⟨none, none, rfl, rfl⟩ ?_ ?_ ?_
 ·rintro ⟨a, b⟩ ps ρ ⟨x, y, rfl, e⟩
  rw [all_cons] at e
  by_cases h2 : ((b - a).natAbs : Int) < step
  ·have hf : farOk step (a, b) = false := by unfold farOk; exact decide_eq_false (by omega)
   rw [hf, Bool.false_and] at e
   exact ⟨_, .rt (.bl false), rfl, by unfold b_Z4_f0; simp_arith [abs_if, h2, decide_true], Or.inr ⟨rfl, e⟩⟩
  ·have hf : farOk step (a, b) = true := by unfold farOk; exact decide_eq_true (by omega)
   rw [hf, Bool.true_and] at e
   exact ⟨_, .nx _, rfl, by unfold b_Z4_f0; simp_arith [abs_if, h2, decide_false]; rfl, _, _, rfl, e⟩
 ·rintro ρ ⟨x, y, rfl, e⟩
  exact Or.inl ⟨x, y, rfl, e⟩
 ·rintro o (⟨x, y, rfl, e⟩ | ⟨rfl, e⟩)
  ·rw [e, Bool.true_and]
   unfold after
   simp_arith [turns_of_eq, length_map, max_if]
   rfl
  ·rw [e]; rfl
theorem are_wavy_eq (row places : List Int) (step : Int) (h1 : 1 <= step) (hl : places.length < sizeLine) : m_Z7 [.lst (row.map .int), .int step, .lst (places.map .int)] = some (.sh (.bl (areW row step places))) := by
 unfold m_Z7 b_Z7 areW
 refine runB_rt ?_
 refine seqI (ρ' := [some (.sh (.lst (row.map .int))), some (.sh (.int step)), some (.sh (.lst (places.map .int)))]) (by simp_arith [refuse_step_eq step h1]; rfl) ?_
 cases hp : pok row.length 0 places with
 | false =>
  simp_arith [are_places_eq, hp]
  rfl
 | true =>
  have hm := pok_mem (Int.le_refl 0) hp
  have hc : mcomp [none, some 0] (aslst (mvar 2)) (.nm 0) cyes (mix (bvar 1) (mvar 0)) [some (.sh (.lst (row.map .int))), some (.sh (.int step)), some (.sh (.lst (places.map .int)))] = some ((places.map (num row)).map .int) := by
   unfold mcomp
   simp_arith [blkRo]
   rw [compD_map (f := D.int) (G := fun p => D.int (num row p)) (fun ps ρ => ∃ x, ρ = [x, some (.sh (.lst (row.map .int)))] /\ ∀ p ∈ ps, 0 <= p /\ p < row.length)
    (by
     rintro p ps ρ ⟨x, rfl, hh⟩
     have := hh p (by simp)
     exact ⟨_, rfl, rfl, by simp_arith [atI_map D.int row p this.1 this.2 0]; rfl, _, rfl, fun q hq => hh q (by simp [hq])⟩) places _ [] ⟨none, rfl, hm⟩ (by simp; omega)]
   simp
  simp_arith [are_places_eq, hp, hc, go_by_turns_eq, length_map, Bool.true_and]
def wD : Option Bool -> D
 | none => .non
 | some b => .bl b
def wrest (row : List Int) (step : Int) : Int -> Option Bool -> List Int -> Bool
 | _, _, [] => true
 | last, way, p :: ps => if p <= last \/ (row.length : Int) <= p then false else
  if -1 < last then (if ((num row p - num row last).natAbs : Int) < step \/ way = some (decide (0 < num row p - num row last)) then false else wrest row step p (some (decide (0 < num row p - num row last))) ps)
  else wrest row step p way ps
def altW (step : Int) : Option Bool -> List Int -> Bool
 | way, a :: b :: r => if ((b - a).natAbs : Int) < step \/ way = some (decide (0 < b - a)) then false else altW step (some (decide (0 < b - a))) (b :: r)
 | _, _ => true
theorem wrest_altW (row : List Int) (step : Int) : ∀ (ps : List Int) (last : Int) (way : Option Bool), 0 <= last -> wrest row step last way ps = (pok row.length (last + 1) ps && altW step way (num row last :: ps.map (num row)))
 | [], last, way, h => by simp [wrest, pok, altW]
 | p :: ps, last, way, h => by
  simp only [wrest, pok, altW, map_cons]
  by_cases h1 : p <= last \/ (row.length : Int) <= p
  ·rw [if_pos h1, if_pos (by omega)]; rfl
  ·rw [if_neg h1, if_pos (show -1 < last by omega), if_neg (show ¬ (p < last + 1 \/ (row.length : Int) <= p) by omega)]
   by_cases h2 : ((num row p - num row last).natAbs : Int) < step \/ way = some (decide (0 < num row p - num row last))
   ·rw [if_pos h2, if_pos h2, Bool.and_false]
   ·rw [if_neg h2, if_neg h2, wrest_altW row step ps p _ (by omega)]
theorem wrest_start (row : List Int) (step : Int) (ps : List Int) : wrest row step (-1) none ps = (pok row.length 0 ps && altW step none (ps.map (num row))) := by
 cases ps with
 | nil => rfl
 | cons p ps =>
  simp only [wrest, pok, map_cons]
  by_cases h1 : p <= -1 \/ (row.length : Int) <= p
  ·rw [if_pos h1, if_pos (by omega)]; rfl
  ·rw [if_neg h1, if_neg (show ¬ (-1 : Int) < -1 by omega), if_neg (show ¬ (p < 0 \/ (row.length : Int) <= p) by omega), wrest_altW row step ps p none (by omega)]
theorem trip_length : ∀ ns : List Int, (trip ns).length = ns.length - 2
 | [] => rfl
 | [_] => rfl
 | [_, _] => rfl
 | a :: b :: c :: r => by
  have := trip_length (b :: c :: r)
  simp only [trip, length_cons] at this ⊢
  omega
theorem filter_all (ts : List (Int × Int × Int)) (n : Nat) (h : ts.length = n - 2) : decide (((ts.filter turn).length : Int) = max 0 ((n : Int) - 2)) = ts.all turn := by
 have e : max 0 ((n : Int) - 2) = (ts.length : Int) := by omega
 rw [e]
 have : ((((ts.filter turn).length : Int) = (ts.length : Int)) ↔ ts.all turn = true) := by
  rw [Int.natCast_inj, length_filter_eq_length_iff, all_eq_true]
 cases h2 : ts.all turn with
 | true => exact decide_eq_true (this.mpr h2)
 | false => exact decide_eq_false fun h3 => by rw [this.mp h3] at h2; cases h2
theorem altW_some (step : Int) (hs : 1 <= step) : ∀ (r : List Int) (a b : Int), step <= ((b - a).natAbs : Int) -> altW step (some (decide (0 < b - a))) (b :: r) = ((pairs (b :: r)).all (farOk step) && (trip (a :: b :: r)).all turn)
 | [], a, b, h => by simp [altW, pairs, trip]
 | c :: r, a, b, h => by
  have ih := altW_some step hs r b c
  have hp : pairs (b :: c :: r) = (b, c) :: pairs (c :: r) := by simp [pairs]
  simp only [altW, hp, trip, all_cons]
  by_cases h1 : ((c - b).natAbs : Int) < step
  ·rw [if_pos (Or.inl h1)]
   have : farOk step (b, c) = false := by unfold farOk; exact decide_eq_false (by simp only; omega)
   rw [this]; rfl
  ·have hf : farOk step (b, c) = true := by unfold farOk; exact decide_eq_true (by simp only; omega)
   rw [hf, Bool.true_and]
   by_cases h2 : some (decide (0 < b - a)) = some (decide (0 < c - b))
   ·rw [if_pos (Or.inr h2)]
    have h3 : (0 < b - a) ↔ (0 < c - b) := by simpa using h2
    have : turn (a, b, c) = false := by unfold turn; simp only [Bool.or_eq_false_iff, decide_eq_false_iff_not]; omega
    rw [this, Bool.false_and, Bool.and_false]
   ·rw [if_neg (by simp only [h1, h2, or_self, not_false_eq_true]), ih (by omega)]
    have h3 : ¬ ((0 < b - a) ↔ (0 < c - b)) := by simpa using h2
    have : turn (a, b, c) = true := by
     unfold turn
     simp only [Bool.or_eq_true, decide_eq_true_eq]
     omega
    rw [this, Bool.true_and]
theorem altW_none (step : Int) (hs : 1 <= step) (ns : List Int) : altW step none ns = ((pairs ns).all (farOk step) && (trip ns).all turn) := by
 match ns with
 | [] => rfl
 | [a] => simp [altW, pairs, trip]
 | a :: b :: r =>
  have hp : pairs (a :: b :: r) = (a, b) :: pairs (b :: r) := by simp [pairs]
  simp only [altW, hp, all_cons]
  by_cases h1 : ((b - a).natAbs : Int) < step
  ·rw [if_pos (Or.inl h1)]
   have : farOk step (a, b) = false := by unfold farOk; exact decide_eq_false (by simp only; omega)
   rw [this]; rfl
  ·have hf : farOk step (a, b) = true := by unfold farOk; exact decide_eq_true (by simp only; omega)
   rw [if_neg (by simp [h1]), hf, Bool.true_and, altW_some step hs r a b (by omega)]
theorem areW_eq (row places : List Int) (step : Int) (hs : 1 <= step) : areW row step places = wrest row step (-1) none places := by
 unfold areW
 rw [wrest_start, altW_none step hs, filter_all _ places.length (by rw [trip_length]; simp)]
def NI (cs : List Nat) : List Int := cs.map fun (c : Nat) => (c : Int)
theorem num_nat (row : List Int) (p : Nat) : num row (p : Int) = xr row p := by unfold num; rw [Int.toNat_natCast]
theorem far_abs {s : Int} (hs : 1 <= s) {d : Bool} {a b : Int} (h : far s d a b) : ¬ ((b - a).natAbs : Int) < s /\ decide (0 < b - a) = d := by
 unfold far at h
 cases d
 ·simp only [Bool.false_eq_true, if_false] at h
  exact ⟨by omega, decide_eq_false (by omega)⟩
 ·simp only [if_true] at h
  exact ⟨by omega, decide_eq_true (by omega)⟩
theorem far_of_abs {s : Int} {a b : Int} (h : ¬ ((b - a).natAbs : Int) < s) : far s (decide (0 < b - a)) a b := by
 unfold far
 by_cases z : 0 < b - a
 ·rw [decide_eq_true z]; simp; omega
 ·rw [decide_eq_false z]; simp; omega
theorem wrest_of (row : List Int) (s : Int) (hs : 1 <= s) : ∀ (l : List Nat) (p : Nat) (d : Bool) (w : Option Bool), Wd (xr row) row.length s d (p :: l) -> w ≠ some d -> wrest row s (p : Int) w (NI l) = true
 | [], p, d, w, _, _ => rfl
 | q :: l, p, d, w, h, hw => by
  have hq := h.2.2.lt
  have h1 := h.1
  obtain ⟨f1, f2⟩ := far_abs hs h.2.1
  show wrest row s (p : Int) w ((q : Int) :: NI l) = true
  rw [wrest, if_neg (by omega), if_pos (by omega), num_nat, num_nat, f2, if_neg (by rintro (z | z); exact f1 z; exact hw z)]
  exact wrest_of row s hs l q (!d) (some d) h.2.2 (by cases d <;> simp)
theorem of_wrest (row : List Int) (s : Int) (hs : 1 <= s) : ∀ (ps : List Int) (p : Nat) (w : Option Bool), p < row.length -> wrest row s (p : Int) w ps = true -> ∃ l d, ps = NI l /\ w ≠ some d /\ Wd (xr row) row.length s d (p :: l)
 | [], p, w, hp, _ => by
  refine ⟨[], ?_⟩
  cases w with
  | none => exact ⟨true, rfl, by simp, hp⟩
  | some b => exact ⟨!b, rfl, by cases b <;> simp, hp⟩
 | q :: ps, p, w, hp, h => by
  rw [wrest] at h
  by_cases h1 : q <= (p : Int) \/ (row.length : Int) <= q
  ·rw [if_pos h1] at h; cases h
  ·rw [if_neg h1, if_pos (by omega)] at h
   obtain ⟨m, hm⟩ := nat_of (x := q) (by omega)
   subst hm
   rw [num_nat, num_nat] at h
   by_cases h2 : ((xr row m - xr row p).natAbs : Int) < s \/ w = some (decide (0 < xr row m - xr row p))
   ·rw [if_pos h2] at h; cases h
   ·rw [if_neg h2] at h
    obtain ⟨l, d, e, hw, hd⟩ := of_wrest row s hs ps m _ (by omega) h
    have hd2 : d = !(decide (0 < xr row m - xr row p)) := by
     generalize decide (0 < xr row m - xr row p) = b at hw ⊢
     cases d <;> cases b <;> first | rfl | exact absurd rfl hw
    rw [hd2] at hd
    refine ⟨m :: l, decide (0 < xr row m - xr row p), by rw [e]; rfl, fun z => h2 (.inr z), by omega, far_of_abs fun z => h2 (.inl z), hd⟩
theorem areW_wv (row : List Int) (s : Int) (hs : 1 <= s) (l : List Nat) (h : Wv (xr row) row.length s l) : areW row s (NI l) = true := by
 rw [areW_eq row (NI l) s hs]
 rcases h with rfl | ⟨d, h⟩
 ·rfl
 ·cases l with
  | nil => exact h.elim
  | cons p l =>
   have hp := h.lt
   show wrest row s (-1) none ((p : Int) :: NI l) = true
   rw [wrest, if_neg (by omega), if_neg (by omega)]
   exact wrest_of row s hs l p d none h (by simp)
end
section
open PySem L2
abbrev BT (row : List Int) (s : Int) (d : Bool) (p t : Nat) : List Nat -> Prop := Best (From (xr row) row.length s d p t)
theorem BT.len {row : List Int} {s : Int} {d : Bool} {p t : Nat} {l : List Nat} (h : BT row s d p t l) : l.length <= row.length := by
 rcases h.1.2 with e | ⟨q, m, e, _⟩
 ·rw [e] at h ⊢
  have := h.1.1.lt
  simp; omega
 ·rw [e] at h ⊢
  have := h.1.1.len
  simp at this ⊢; omega
def Done (row : List Int) (s : Int) (p : Nat) (U V : List (List Nat)) : Prop := ∀ q, p <= q -> q < row.length -> BT row s true q row.length (U.getD q []) /\ BT row s false q row.length (V.getD q [])
def Yet (p : Nat) (U V : List (List Nat)) : Prop := ∀ q, q < p -> U.getD q [] = [q] /\ V.getD q [] = [q]
theorem upU_at (s : Int) (row : List Int) (d : Bool) (U V : List (List Nat)) (p q : Nat) (hp : p < U.length) : (upU s row d U V p q).getD p [] = if far s d (xr row p) (xr row q) /\ (U.getD p []).length <= (V.getD q []).length then p :: V.getD q [] else U.getD p [] := by
 unfold upU far
 by_cases hc : ((if d then s <= xr row q - xr row p else s <= xr row p - xr row q) /\ (U.getD p []).length <= (V.getD q []).length)
 ·rw [if_pos hc, if_pos hc, getD_set_eq _ _ _ hp]
 ·rw [if_neg hc, if_neg hc]
theorem inner_step (row : List Int) (s : Int) (U V : List (List Nat)) (p k : Nat) (hU : U.length = row.length) (hV : V.length = row.length) (hk : p + 1 + k < row.length) (hd : Done row s (p + 1) U V)
  (h1 : BT row s true p (p + k) (U.getD p [])) (h2 : BT row s false p (p + k) (V.getD p [])) :
  BT row s true p (p + (k + 1)) ((upU s row true U V p (p + 1 + k)).getD p []) /\ BT row s false p (p + (k + 1)) ((upU s row false V U p (p + 1 + k)).getD p []) := by
 obtain ⟨a, b⟩ := hd (p + 1 + k) (by omega) hk
 rw [upU_at _ _ _ _ _ _ _ (by omega), upU_at _ _ _ _ _ _ _ (by omega)]
 have e : p + (k + 1) = p + 1 + k := by omega
 rw [e]
 constructor
 ·exact from_step (q := p + 1 + k) (by omega) (from_skip h1 (by omega)) b _
 ·exact from_step (q := p + 1 + k) (by omega) (from_skip h2 (by omega)) a _
theorem inner_loop (row : List Int) (s : Int) (hr : row.length <= 300) (U V : List (List Nat)) (p : Nat) (hp : p < row.length) (hU : U.length = row.length) (hV : V.length = row.length) (hd : Done row s (p + 1) U V) (hy : Yet (p + 1) U V) (o5 o6 : Option S) (Q : Out -> Prop)
  (hQ : ∀ U V o5 o6, U.length = row.length -> V.length = row.length -> Done row s p U V -> Yet p U V -> Q (.nx (envU row s U V (some (.sh (.int (p : Int)))) o5 o6))) :
  Run b_Z15_f1 (envU row s U V (some (.sh (.int (p : Int)))) o5 o6) Q := by
 unfold b_Z15_f1
 have k1 : okR ((p : Int) + 1) = true := okR_of (by omega) (by omega)
 have k2 : okR (row.length : Int) = true := okR_of (by omega) (by omega)
 have er : rangeD ((p : Int) + 1) ((row.length : Int) - ((p : Int) + 1)).toNat = (List.range (row.length - (p + 1))).map fun (j : Nat) => D.int ((p + 1 + j : Nat) : Int) := by
  rw [rangeD_map, show ((row.length : Int) - ((p : Int) + 1)).toNat = row.length - (p + 1) by omega]
  apply map_congr_left
  intro i _
  congr 1
 refine run_forN (row.length - (p + 1)) (f := fun (j : Nat) => D.int ((p + 1 + j : Nat) : Int)) (by unfold envU; simp_arith [length_map, rng2_ok k1 k2, er])
  (I := fun k ρ => ∃ U V o5 o6, U.length = row.length /\ V.length = row.length /\ Done row s (p + 1) U V /\ Yet p U V /\ BT row s true p (p + k) (U.getD p []) /\ BT row s false p (p + k) (V.getD p []) /\ ρ = envU row s U V (some (.sh (.int (p : Int)))) o5 o6) _
  ⟨U, V, o5, o6, hU, hV, hd, fun q hq => hy q (by omega), by rw [(hy p (by omega)).1]; exact from_one hp, by rw [(hy p (by omega)).2]; exact from_one hp, rfl⟩ ?_ ?_
 ·rintro k ρ hk ⟨U, V, o5, o6, hU, hV, hd, hy, h1, h2, rfl⟩
  refine ⟨_, rfl, ?_⟩
  obtain ⟨a, b⟩ := hd (p + 1 + k) (by omega) (by omega)
  have la := a.len
  have lb := b.len
  obtain ⟨o6', e⟩ := tails_body row s U V p (p + 1 + k) o6 hU hV hp (by omega) (by omega) (by omega) (by omega)
  obtain ⟨n1, n2⟩ := inner_step row s U V p k hU hV (by omega) hd h1 h2
  refine ⟨_, e, upU s row true U V p (p + 1 + k), upU s row false V U p (p + 1 + k), _, _, by rw [upU_len]; exact hU, by rw [upU_len]; exact hV, ?_, ?_, n1, n2, rfl⟩
  ·intro q h1 h2
   rw [upU_ne _ _ _ _ _ _ _ _ (by omega), upU_ne _ _ _ _ _ _ _ _ (by omega)]
   exact hd q h1 h2
  ·intro q h1
   rw [upU_ne _ _ _ _ _ _ _ _ (by omega), upU_ne _ _ _ _ _ _ _ _ (by omega)]
   exact hy q h1
 ·rintro ρ ⟨U, V, o5, o6, hU, hV, hd, hy, h1, h2, rfl⟩
  refine hQ U V o5 o6 hU hV (fun q h3 h4 => ?_) hy
  rcases Nat.lt_or_ge p q with z | z
  ·exact hd q (by omega) h4
  ·have : q = p := by omega
   subst this
   exact ⟨from_all h1 (by omega), from_all h2 (by omega)⟩
theorem rngD_ok {j : Int} (h : okR j = true) : rngD [.int j] = some (downD j.toNat) := by
 unfold rngD
 simp only [h, if_true]
theorem ones_ev (row : List Int) (hr : row.length <= 300) (ρ : Ro) (h0 : bvar 0 ρ = some (row.map .int)) : mcomp [none] (mlist rng1 (acons (mlen (bvar 0)) anil)) (.nm 0) cyes (mlst (sized (acons (mvar 0) anil))) ρ = some (((List.range row.length).map fun j => [j]).map L) := by
 have k2 : okR (row.length : Int) = true := okR_of (by omega) (by omega)
 have i1 : 0 + 1 <= sizeLine := le_size (by decide)
 have e1 : mlist rng1 (acons (mlen (bvar 0)) anil) ρ = some ((List.range row.length).map dN) := by
  unfold mlist
  rw [acons_ev (mlen_ev h0) anil_ev, Option.bind_some, length_map, rng1_ok k2, Int.toNat_natCast, rangeD_li, map_map]
  rfl
 unfold mcomp
 rw [e1]
 refine (compD_map (f := dN) (G := fun j => L [j]) (fun _ ρ => ∃ x, ρ = [x]) (by
  rintro d ds ρ ⟨x, rfl⟩
  exact ⟨[some (.sh (dN d))], rfl, rfl, by rw [mlst_ev (sized_ev (acons_ev (x := mvar 0) (d := dN d) rfl anil_ev) i1)]; rfl, _, rfl⟩) (List.range row.length) _ [] ⟨none, rfl⟩ (le_size (by simp; omega))).trans ?_
 rw [map_map]
 rfl
theorem tails_eq (row : List Int) (s : Int) (hr : row.length <= 300) : ∃ U V : List (List Nat), m_Z15 [.lst (row.map .int), .int s] = some (.sh (.tup [.lst (U.map L), .lst (V.map L)])) /\ U.length = row.length /\ V.length = row.length /\ Done row s 0 U V := by
 suffices h : ∃ d, runB 7 b_Z15 [.lst (row.map .int), .int s] = some (.sh d) /\ ∃ U V : List (List Nat), d = .tup [.lst (U.map L), .lst (V.map L)] /\ U.length = row.length /\ V.length = row.length /\ Done row s 0 U V by
  obtain ⟨d, e, U, V, rfl, a, b, c⟩ := h
  exact ⟨U, V, e, a, b, c⟩
 suffices h : Run b_Z15 (startS 7 [.lst (row.map .int), .int s]) (fun o => ∃ U V : List (List Nat), o = .rt (.tup [.lst (U.map L), .lst (V.map L)]) /\ U.length = row.length /\ V.length = row.length /\ Done row s 0 U V) by
  obtain ⟨o, e, U, V, rfl, r⟩ := h
  exact ⟨_, runB_rt e, U, V, rfl, r⟩
 unfold b_Z15
 have k2 : okR (row.length : Int) = true := okR_of (by omega) (by omega)
 have i2 : 0 + 1 + 1 <= sizeLine := le_size (by decide)
 refine run_seq (ρ' := [some (.sh (.lst (row.map .int))), some (.sh (.int s)), some (.own (((List.range row.length).map fun j => [j]).map L)), none, none, none, none]) (by unfold msetF; rw [ones_ev row hr _ rfl]; rfl) ?_
 refine run_seq (ρ' := envU row s ((List.range row.length).map fun j => [j]) ((List.range row.length).map fun j => [j]) none none none) (by unfold msetF; rw [ones_ev row hr _ rfl]; rfl) ?_
 have ed : downD row.length = (List.range row.length).map fun (j : Nat) => D.int ((row.length : Int) - 1 - (j : Int)) := rfl
 have one : ∀ q, q < row.length -> ((List.range row.length).map fun j => [j]).getD q [] = [q] := by
  intro q hq
  rw [getD_eq_getElem?_getD, getElem?_map, getElem?_range hq]; rfl
 refine run_mseq (run_forN row.length (f := fun (j : Nat) => D.int ((row.length : Int) - 1 - (j : Int))) ?_
  (I := fun j ρ => ∃ U V o4 o5 o6, U.length = row.length /\ V.length = row.length /\ Done row s (row.length - j) U V /\ Yet (row.length - j) U V /\ ρ = envU row s U V o4 o5 o6) _
  ⟨_, _, _, _, _, by simp, by simp, fun q h1 h2 => by omega, fun q h1 => ⟨one q (by omega), one q (by omega)⟩, rfl⟩ ?_ ?_)
 ·unfold mlist
  rw [acons_ev (x := mlen (bvar 0)) (d := .int ((row.map D.int).length : Int)) (mlen_ev rfl) anil_ev, Option.bind_some, length_map, rngD_ok k2, Int.toNat_natCast, ed]
 ·rintro j ρ hj ⟨U, V, o4, o5, o6, hU, hV, hd, hy, rfl⟩
  refine ⟨_, rfl, ?_⟩
  have e : (row.length : Int) - 1 - (j : Int) = ((row.length - 1 - j : Nat) : Int) := by omega
  rw [e]
  have e2 : row.length - 1 - j + 1 = row.length - j := by omega
  refine inner_loop row s hr U V (row.length - 1 - j) (by omega) hU hV (by rw [e2]; exact hd) (by rw [e2]; exact hy) o5 o6 _ fun U V o5 o6 hU hV hd hy => ?_
  rw [show row.length - 1 - j = row.length - (j + 1) by omega] at hd hy
  exact ⟨U, V, _, _, _, hU, hV, hd, hy, rfl⟩
 ·rintro ρ ⟨U, V, o4, o5, o6, hU, hV, hd, hy, rfl⟩
  rw [Nat.sub_self] at hd
  unfold b_Z15_r2
  refine run_freeze (ds := U.map L) rfl (run_freeze (ds := V.map L) rfl ⟨_, ?_, U, V, rfl, hU, hV, hd⟩)
  unfold envU
  simp_arith [i2, if_true]
theorem key_eq (l : List Nat) : m_Z0 [L l] = some (.sh (Ky l)) := by
 unfold m_Z0 b_Z0
 have i2 : 0 + 1 + 1 <= sizeLine := le_size (by decide)
 refine runB_rt ?_
 unfold L
 simp_arith [i2, if_true, length_map]
 rfl
theorem mem_getD {U : List (List Nat)} {m : List Nat} (h : m ∈ U) : ∃ q, q < U.length /\ m = U.getD q [] := by
 obtain ⟨q, hq, e⟩ := getElem_of_mem h
 exact ⟨q, hq, by rw [getD_eq_getElem?_getD, getElem?_eq_getElem hq, <- e]; rfl⟩
theorem getD_mem {U : List (List Nat)} {q : Nat} (h : q < U.length) : U.getD q [] ∈ U := by
 rw [getD_eq_getElem?_getD, getElem?_eq_getElem h]; exact getElem_mem h
theorem longest_eq (row : List Int) (s : Int) (hs : 1 <= s) (hr : row.length <= 300) : ∃ l, m_Z13 [.lst (row.map .int), .int s] = some (.sh (L l)) /\ Best (Wv (xr row) row.length s) l := by
 obtain ⟨U, V, et, hU, hV, hd⟩ := tails_eq row s hr
 have i0 : 0 <= sizeLine := Nat.zero_le _
 have ek : ∀ l, shOf (m_Z0 [L l]) = some (Ky l) := fun l => by rw [key_eq]; rfl
 have hres : ∃ l, minD (fun d => shOf (m_Z0 [d])) ((U ++ V).map L) (.lst []) = some (L l) /\ Best (Wv (xr row) row.length s) l := by
  cases hc : U ++ V with
  | nil =>
   have : row.length = 0 := by
    have := congrArg List.length hc
    rw [length_append, length_nil] at this
    omega
   exact ⟨[], rfl, best_none this⟩
  | cons b ls =>
   obtain ⟨r, e, h1, h2⟩ := min_list (mk := fun d => shOf (m_Z0 [d])) ek ls b
   refine ⟨r, ?_, ?_⟩
   ·show (match shOf (m_Z0 [L b]) with | some kd => minF _ (ls.map L) (L b) kd | none => none) = _
    rw [ek b]
    exact e
   ·rw [<- hc] at h1 h2
    have all : ∀ m ∈ U ++ V, ∃ d q, BT row s d q row.length m := by
     intro m hm
     rcases List.mem_append.mp hm with h | h
     ·obtain ⟨q, hq, rfl⟩ := mem_getD h
      exact ⟨true, q, (hd q (Nat.zero_le _) (by omega)).1⟩
     ·obtain ⟨q, hq, rfl⟩ := mem_getD h
      exact ⟨false, q, (hd q (Nat.zero_le _) (by omega)).2⟩
    refine best_all h1 h2 (fun m hm => ?_) (fun d p hp => ?_) ?_
    ·obtain ⟨d, q, h⟩ := all m hm
     exact .inr ⟨d, h.1.1⟩
    ·cases d
     ·exact ⟨_, mem_append_right _ (getD_mem (q := p) (by omega)), (hd p (Nat.zero_le _) hp).2⟩
     ·exact ⟨_, mem_append_left _ (getD_mem (q := p) (by omega)), (hd p (Nat.zero_le _) hp).1⟩
    ·obtain ⟨d, q, h⟩ := all r h1
     intro z
     rw [z] at h
     exact h.1.1
 obtain ⟨l, e, hb⟩ := hres
 refine ⟨l, ?_, hb⟩
 unfold m_Z13 b_Z13
 refine runB_run ?_
 ((apply run_seq; focus (simp_arith [refuse_step_eq s hs]; rfl)))
 refine run_seq (ρ' := [some (.sh (.lst (row.map .int))), some (.sh (.int s)), some (.sh (.lst (U.map L))), some (.sh (.lst (V.map L)))]) ?_ ?_
 ·unfold masg
  rw [mcall_sh (acons_ev (d := .lst (row.map .int)) rfl (acons_ev (d := .int s) rfl anil_ev)) et]
  rfl
 ·refine ⟨_, ?_, rfl⟩
  have e1 : aslst (m2 addD (mvar 2) (mvar 3)) [some (.sh (.lst (row.map .int))), some (.sh (.int s)), some (.sh (.lst (U.map L))), some (.sh (.lst (V.map L)))] = some ((U ++ V).map L) := by
   have hz : (U.map L).length + (V.map L).length <= sizeLine := le_size (by simp; omega)
   refine aslst_ev ?_
   unfold m2
   show (if (U.map L).length + (V.map L).length <= sizeLine then some (D.lst (U.map L ++ V.map L)) else none) = _
   rw [if_pos hz, map_append]
  have e2 : mlst (sized anil) [some (.sh (.lst (row.map .int))), some (.sh (.int s)), some (.sh (.lst (U.map L))), some (.sh (.lst (V.map L)))] = some (.lst []) := mlst_ev (sized_ev anil_ev i0)
  unfold mret
  rw [mminK_ev e1 e2, e]
  rfl
theorem how_long_eq (row : List Int) (s : Int) (l : List Nat) (h : m_Z13 [.lst (row.map .int), .int s] = some (.sh (L l))) : m_Z10 [.lst (row.map .int), .int s] = some (.sh (.int (l.length : Int))) := by
 unfold m_Z10 b_Z10
 refine runB_rt ?_
 unfold mret
 rw [mlen_ev (aslst_ev (ds := l.map dN) (mcall_sh (acons_ev (d := .lst (row.map .int)) rfl (acons_ev (d := .int s) rfl anil_ev)) h)), length_map]
 rfl
end
section
open PySem L2
theorem stir_eq (c k : Int) (hk : 0 <= k) : m_Z11 [.int c, .int k] = some (.sh (.int (stir c k))) := by
 have hp : ((10 : Int) ^ (18 : Int).toNat) = 10 ^ 18 := rfl
 have hp2 : ((2 : Int) ^ (28 : Int).toNat) = 2 ^ 28 := rfl
 have o1 : powOk 10 18 = true := by decide
 have o2 : powOk 2 28 = true := by decide
 have o3 : mulOk 28 k = true := mulOk_l _ _ (by decide) (by decide)
 have o4 : mulOk 1013 k = true := mulOk_l _ _ (by decide) (by decide)
 have o5 : mulOk (c + 1013 * k + 1) 16807 = true := mulOk_r _ _ (by decide) (by decide)
 have o6 : shrOk (c - 10 ^ 18) (28 * k) = true := by unfold shrOk; exact decide_eq_true (by omega)
 have o7 : mulOk ((c + 1013 * k + 1) * 16807 % 2147483647) ((c + 1013 * k + 1) * 16807 % 2147483647) = true := mulOk_l _ _ (by omega) (by omega)
 have o8 : mulOk (((c + 1013 * k + 1) * 16807 % 2147483647) * ((c + 1013 * k + 1) * 16807 % 2147483647) % 2147483629) 39373 = true := mulOk_r _ _ (by decide) (by decide)
 have q1 : ∀ i, modOk i (2 ^ 28) = true := fun i => modOk_of _ _ (by decide)
 have q2 : ∀ i, modOk i 2147483647 = true := fun i => modOk_of _ _ (by decide)
 have q3 : ∀ i, modOk i 2147483629 = true := fun i => modOk_of _ _ (by decide)
 have q4 : ∀ i, modOk i 2147483587 = true := fun i => modOk_of _ _ (by decide)
 have f1 : ∀ i, fdivOk i 8 = true := fun i => by unfold fdivOk; decide
 unfold m_Z11 b_Z11 stir
 by_cases h : 10 ^ 18 <= c
 ·simp_arith [hp, hp2, o1, o2, o3, o6, q1, h, decide_true, if_true]
 ·simp_arith [hp, hp2, o1, o2, o3, o4, o5, o7, o8, q1, q2, q3, q4, f1, h, decide_false, if_true, if_false]
theorem cells_eq (ns : List Int) (many : Nat) (hl : ns.length <= 63) : ∃ cs : List Int, m_Z6 [.lst (ns.map .int), .int many] = some (.fr (cs.map .int)) := by
 unfold m_Z6 b_Z6
 have e1 : cutL (ns.map D.int) none (some (many : Int)) = (ns.take many).map .int := by rw [cutL_map, cutI_to]
 have e2 : [D.int 0] = ([0] : List Int).map .int := rfl
 have g : ((ns.take many).map D.int).length + [D.int 0].length <= sizeLine := le_size (by simp; omega)
 have g2 : 1 <= sizeLine := le_size (by decide)
 refine ⟨cutI (ns.take many ++ [0]) none (some (max 1 (min (many : Int) (ns.length : Int)))), runB_rf ?_⟩
 simp_arith [e1, g2, if_true, length_map, max_if, min_if]
 have g3 : (ns.take many).length + (0 + 1) <= sizeLine := le_size (by simp; omega)
 rw [if_pos g3]
 simp_arith []
 rw [e2, <- map_append, cutL_map]
def envR (c most size kind wide block : Int) (f : List Int) (last : Int) (o8 o9 o10 : Option S) : Ro := [some (.sh (.int c)), some (.sh (.int most)), some (.sh (.int size)), some (.sh (.int kind)), some (.sh (.int wide)), some (.sh (.int block)), some (.own (f.map .int)), some (.sh (.int last)), o8, o9, o10]
theorem row_body (c most size kind wide block : Int) (f : List Int) (last : Int) (j : Nat) (o9 o10 : Option S) (hk0 : 0 <= kind) (hk8 : kind < 8) (hw : 0 < wide) (hw6 : wide <= 1000000) (hb : 0 < block) (hb9 : block <= 9) (hf : f.length < 1000000) (Q : Out -> Prop)
  (hQ : ∀ x last o8 o9 o10, Q (.nx (envR c most size kind wide block (f ++ [x]) last o8 o9 o10))) : Run b_Z14_f0 (envR c most size kind wide block f last (some (.sh (.int (j : Int)))) o9 o10) Q := by
 have s1 := stir_eq c (10 + (j : Int)) (by omega)
 have b1 := mod_cases (x := stir c (10 + (j : Int))) hw
 obtain ⟨one, eo⟩ : ∃ k, stir c (10 + (j : Int)) % wide = k := ⟨_, rfl⟩
 rw [eo] at b1
 have p23 : (10 : Int) ^ (23 : Int).toNat = 100000000000000000000000 := by decide
 have o23 : powOk 10 23 = true := by decide
 have i1 : 0 + 1 <= sizeLine := le_size (by decide)
 have i2 : 0 + 1 + 1 <= sizeLine := le_size (by decide)
 have i3 : 0 + 1 + 1 + 1 <= sizeLine := le_size (by decide)
 have i4 : 0 + 1 + 1 + 1 + 1 <= sizeLine := le_size (by decide)
 have i7 : 0 + 1 + 1 + 1 + 1 + (0 + 1 + 1 + 1) <= sizeLine := le_size (by decide)
 have i8 : 0 + 1 + 1 + 1 + 1 + 1 + 1 + 1 + (0 + 1) <= sizeLine := le_size (by decide)
 have d2 : ∀ i, fdivOk i 2 = true := fun i => fdivOk_of _ _ (by decide) (by decide)
 have m2k := mod_cases (x := (j : Int)) (show (0 : Int) < 2 by decide)
 obtain ⟨x2, e2⟩ := at2 one (0 - one) ((j : Int) % 2) m2k.1 m2k.2
 have mb := mod_cases (x := (j : Int) / block) (show (0 : Int) < 2 by decide)
 have mu1 : mulOk ((j : Int) / block % 2) wide = true := mulOk_l _ _ (by omega) (by omega)
 have mu2 : mulOk (one - wide / 2) 100000000000000000000000 = true := mulOk_l _ _ (by omega) (by omega)
 unfold b_Z14_f0 envR
 ((apply run_seq; focus (simp_arith [s1, modOk_of (stir c (10 + (j : Int))) wide hw, if_true, eo]; rfl)))
 ((apply run_seq; focus (simp_arith [d2, if_true]; rfl)))
 ((apply run_seq; focus (simp_arith [d2, if_true, i4, i2, modOk_of (j : Int) 2 (by decide), e2]; rfl)))
 ((apply run_seq; focus (simp_arith [d2, if_true, i3, i7, fdivOk_of (j : Int) block hb (by omega), modOk_of ((j : Int) / block) 2 (by decide), mu1, mu2, p23, o23, s1, modOk_of (stir c (10 + (j : Int))) 3 (by decide)]; rfl)))
 obtain ⟨x8, e8⟩ := at8 (one - wide / 2) ((j : Int) + one / 2) (0 - (j : Int) - one / 2) x2 (one + (j : Int) / block % 2 * wide) wide ((one - wide / 2) * 100000000000000000000000 + stir c (10 + (j : Int)) % 3) (last + one - wide / 2) kind hk0 hk8
 have hl : (f.map D.int).length < sizeLine := by simp; have := size_big; omega
 refine ⟨_, by simp_arith [i1, i8, if_true, e8, hl]; rfl, ?_⟩
 have := fun a b d => hQ x8 (last + one - wide / 2) a b d
 unfold envR at this
 simp only [map_append] at this
 exact this _ _ _
theorem row_eq (c : Int) (most : Nat) (hm : most <= 300) : ∃ f : List Int, f.length <= most /\ m_Z14 [.int c, .int most] = some (.fr (f.map .int)) := by
 suffices h : ∃ es, m_Z14 [.int c, .int most] = some (.fr es) /\ ∃ f : List Int, f.length <= most /\ es = f.map .int by
  obtain ⟨es, e, f, hf, rfl⟩ := h
  exact ⟨f, hf, e⟩
 unfold m_Z14 b_Z14
 refine runB_rfR ?_
 have i4 : 0 + 1 + 1 + 1 + 1 <= sizeLine := le_size (by decide)
 have i0 : 0 <= sizeLine := Nat.zero_le _
 have p6 : (10 : Int) ^ (6 : Int).toNat = 1000000 := by decide
 have o6 : powOk 10 6 = true := by decide
 have b1 := mod_cases (x := stir c 1) (show (0 : Int) < 4 by decide)
 have b2 := mod_cases (x := stir c 2) (show (0 : Int) < 8 by decide)
 have b3 := mod_cases (x := stir c 3) (show (0 : Int) < 4 by decide)
 have b4 := mod_cases (x := stir c 4) (show (0 : Int) < 9 by decide)
 obtain ⟨sz, e1, hs1⟩ := at4 4 13 41 ((most : Int) + 1) (stir c 1 % 4) b1.1 b1.2
 have hsz : 0 < sz := by omega
 have b0 := mod_cases (x := stir c 0) hsz
 ((apply run_seq; focus (simp_arith [stir_eq c 0 (by decide), stir_eq c 1 (by decide), i4, if_true, modOk_of (stir c 1) 4 (by decide), e1, modOk_of (stir c 0) sz hsz]; rfl)))
 ((apply run_seq; focus (simp_arith [stir_eq c 2 (by decide), if_true, modOk_of (stir c 2) 8 (by decide)]; rfl)))
 obtain ⟨wide, e3, hw⟩ := at4 2 5 50 1000000 (stir c 3 % 4) b3.1 b3.2
 ((apply run_seq; focus (simp_arith [stir_eq c 3 (by decide), i4, if_true, modOk_of (stir c 3) 4 (by decide), p6, o6, e3]; rfl)))
 ((apply run_seq; focus (simp_arith [stir_eq c 4 (by decide), if_true, modOk_of (stir c 4) 9 (by decide)]; rfl)))
 ((apply run_seq; focus (simp_arith [i0, if_true]; rfl)))
 ((apply run_seq; focus (simp_arith []; rfl)))
 obtain ⟨n, en⟩ := nat_of (x := min (stir c 0 % sz) (most : Int)) (by omega)
 have hn : n <= 300 := by omega
 have hn2 : n <= most := by omega
 have k1 : okR (n : Int) = true := okR_of (by omega) (by omega)
 refine run_mseq (run_forN n (f := fun (j : Nat) => D.int (j : Int)) (by simp_arith [min_if, en, rng1_ok k1, Int.toNat_natCast]; rw [rangeD_li, map_map]; rfl)
  (I := fun j ρ => ∃ f last o8 o9 o10, f.length = j /\ ρ = envR c most (stir c 0 % sz) (stir c 2 % 8) wide (1 + stir c 4 % 9) f last o8 o9 o10) _ ⟨[], _, _, _, _, rfl, rfl⟩ ?_ ?_)
 ·rintro j ρ hj ⟨f, last, o8, o9, o10, hf, rfl⟩
  refine ⟨_, rfl, row_body c most (stir c 0 % sz) (stir c 2 % 8) wide (1 + stir c 4 % 9) f last j o9 o10 b2.1 b2.2 (by omega) (by omega) (by omega) (by omega) (by omega) _ fun x last o8 o9 o10 => ⟨f ++ [x], last, o8, o9, o10, by simp [hf], rfl⟩⟩
 ·rintro ρ ⟨f, last, o8, o9, o10, hf, rfl⟩
  exact run_retO rfl ⟨_, rfl, f, by omega, rfl⟩
theorem mtru_bl {x : ME} {ρ : Ro} {b : Bool} (h : x ρ = some (.bl b)) : mtru x ρ = some b := by unfold mtru; rw [h]; rfl
theorem cnot_ev {x : MB} {ρ : Ro} {b : Bool} (h : x ρ = some b) : cnot x ρ = some (!b) := by unfold cnot; rw [h]; rfl
theorem mtest_bl {x : ME} {ρ : Ro} {b : Bool} (h : x ρ = some (.bl b)) : mtest x ρ = some b := by unfold mtest; rw [h]
theorem call1_ev {f : List D -> Option D} {m : ML} {ρ : Ro} {ds : List D} (h : m ρ = some ds) : call1 f m ρ = f ds := by
 unfold call1; rw [h]; rfl
theorem mif_false {c : MB} {x : MS} {ρ : Ro} (h : c ρ = some false) : mif c x mnext ρ = some (.nx ρ) := by unfold mif; rw [h]; rfl
theorem m2_at {f : D -> D -> Option D} {x y : ME} {ρ : Ro} {a b : D} (h1 : x ρ = some a) (h2 : y ρ = some b) : m2 f x y ρ = f a b := by
 unfold m2; rw [h1, h2]; rfl
theorem same0 (a : Int) : m_Z3 [.int a, .int a] = some (.sh (.bl true)) := by
 unfold m_Z3 b_Z3
 refine runB_rt ?_
 ((apply seqI; focus (simp_arith [ks_is]; rfl)))
 ((apply seqI; focus (simp_arith [misi2, k2_i]; rfl)))
 simp_arith [ks_ii, ks_ib, beq_self_eq_true]
theorem same1_lst (xs : List Int) (hl : xs.length <= 1000) : m_Z2 [.lst (xs.map .int), .lst (xs.map .int)] = some (.sh (.bl true)) := by
 unfold m_Z2 b_Z2
 refine runB_run ?_
 ((apply run_seq; focus (simp_arith [ks_ls]; rfl)))
 refine run_mseq (run_if (b := true) (by simp_arith [misi2, k2_l]) ?_)
 show Run (mseq _ _) _ _
 ((apply run_seq; focus (simp_arith [ks_ll, misi2, k2_l, eqS_bb, beq_self_eq_true, Bool.not_true, Bool.not_false]; rfl)))
 ((apply run_seq; focus (simp_arith [beq_self_eq_true, Bool.not_true]; rfl)))
 refine ⟨.rt (.bl true), ?_, rfl⟩
 have hc := comp_none (f := D.int) (mi := mlist zip2 (acons (mvar 0) (acons (mvar 1) anil))) (c := cnot (mtru (mcall m_Z3 (acons (mvar 0) (acons (mvar 1) anil))))) (ρ := [some (.sh (.lst (xs.map .int))), some (.sh (.lst (xs.map .int)))]) xs (by simp_arith [zip_self]) hl
  (by
   intro x hx
   unfold cnot mtru
   rw [mcall_sh (acons_ev (d := .int x) rfl (acons_ev (d := .int x) rfl anil_ev)) (same0 x)]; rfl)
 exact mret_ev hc
end
section
open PySem L2
theorem law_wavy_eq (row places : List Int) (step : Int) (h1 : 1 <= step) (hl : places.length < sizeLine) : m_Z9 [.lst (row.map .int), .int step, .lst (places.map .int)] = some (.sh (.bl (wrest row step (-1) none places))) := by
 have hs : 1 <= sizeLine := by rw [show sizeLine = 2 ^ 24 from rfl]; decide
 unfold m_Z9 b_Z9
 refine runB_rt ?_
 ((apply seqI; focus (simp_arith []; rfl)))
 ((apply seqI; focus (simp_arith [hs, if_true]; rfl)))
 refine seq_for places (f := D.int) (by simp_arith [])
  (I := fun ps ρ => ∃ (last : Int) (ws : List D) (way : Option Bool) (x y : Option S), ρ = [some (.sh (.lst (row.map .int))), some (.sh (.int step)), some (.sh (.lst (places.map .int))), some (.sh (.int last)), some (.own (ws ++ [wD way])), x, y] /\ -1 <= last /\ last < row.length /\ ws.length + 1 + ps.length <= sizeLine /\ wrest row step (-1) none places = wrest row step last way ps)
  (Q := fun o => (∃ ρ, o = .nx ρ /\ wrest row step (-1) none places = true) \/ (o = .rt (.bl false) /\ wrest row step (-1) none places = false))
  ⟨-1, [], none, none, none, rfl, by omega, by omega, by simp; omega, rfl⟩ ?_ ?_ ?_
 ·rintro p ps ρ ⟨last, ws, way, x, y, rfl, g1, g2, g3, e⟩
  simp only [wrest] at e
  simp only [length_cons] at g3
  have hb : (ws ++ [wD way]).length < sizeLine := by simp; omega
  by_cases a1 : p <= last
  ·rw [if_pos (Or.inl a1)] at e
   exact ⟨_, .rt (.bl false), rfl, by unfold b_Z9_f0; simp_arith [length_map, a1, decide_true], Or.inr ⟨rfl, e⟩⟩
  by_cases a2 : (row.length : Int) <= p
  ·rw [if_pos (Or.inr a2)] at e
   exact ⟨_, .rt (.bl false), rfl, by unfold b_Z9_f0; simp_arith [length_map, a1, a2, decide_true, decide_false], Or.inr ⟨rfl, e⟩⟩
  rw [if_neg (by omega)] at e
  by_cases a3 : -1 < last
  ·rw [if_pos a3] at e
   have i1 := atI_map D.int row p (by omega) (by omega) 0
   have i2 := atI_map D.int row last (by omega) (by omega) 0
   have i3 : atI (ws ++ [wD way]) (-1) = some (wD way) := by have := atI_last id ws (wD way); simpa using this
   change atI _ _ = some (D.int (num row p)) at i1
   change atI _ _ = some (D.int (num row last)) at i2
   by_cases a4 : ((num row p - num row last).natAbs : Int) < step
   ·rw [if_pos (Or.inl a4)] at e
    exact ⟨_, .rt (.bl false), rfl, by unfold b_Z9_f0; simp_arith [length_map, a1, a2, a3, a4, i1, i2, abs_if, decide_true, decide_false], Or.inr ⟨rfl, e⟩⟩
   by_cases a5 : way = some (decide (0 < num row p - num row last))
   ·rw [if_pos (Or.inr a5)] at e
    have e5 : eqS (wD way) (.bl (decide (0 < num row p - num row last))) = some true := by
     rw [a5]; show some (_ == _) = some true; rw [beq_self_eq_true]
    exact ⟨_, .rt (.bl false), rfl, by unfold b_Z9_f0; simp_arith [length_map, a1, a2, a3, a4, i1, i2, i3, e5, abs_if, decide_true, decide_false], Or.inr ⟨rfl, e⟩⟩
   ·rw [if_neg (by simp only [a4, a5, or_self, not_false_eq_true])] at e
    have e5 : eqS (wD way) (.bl (decide (0 < num row p - num row last))) = some false := by
     cases way with
     | none => rfl
     | some b =>
      show some (b == _) = some false
      congr 1
      exact beq_eq_false_iff_ne.mpr fun hb => a5 (by rw [hb])
    refine ⟨_, .nx _, rfl, by unfold b_Z9_f0; simp_arith [length_map, a1, a2, a3, a4, i1, i2, i3, e5, hb, abs_if, decide_true, decide_false, if_true]; rfl, ?_⟩
    exact ⟨p, ws ++ [wD way], some _, _, _, rfl, by omega, by omega, by simp; omega, e⟩
  ·rw [if_neg a3] at e
   refine ⟨_, .nx _, rfl, by unfold b_Z9_f0; simp_arith [length_map, a1, a2, a3, decide_true, decide_false]; rfl, ?_⟩
   exact ⟨p, ws, way, _, _, rfl, by omega, by omega, by omega, e⟩
 ·rintro ρ ⟨last, ws, way, x, y, rfl, g1, g2, g3, e⟩
  exact Or.inl ⟨_, rfl, e⟩
 ·rintro o (⟨ρ, rfl, e⟩ | ⟨rfl, e⟩)
  ·rw [e]; rfl
  ·rw [e]; rfl
def KF (n : Nat) (f : Nat -> Bool) : List Nat := (List.range n).filter f
def bitF (j p : Nat) : Bool := j.testBit p
theorem bits_of (f : Nat -> Bool) : ∀ n, ∃ j, j < 2 ^ n /\ ∀ p, p < n -> bitF j p = f p
 | 0 => ⟨0, by decide, fun p hp => by omega⟩
 | n + 1 => by
  obtain ⟨j, hj, h⟩ := bits_of f n
  cases hf : f n with
  | false =>
   refine ⟨j, by rw [Nat.pow_succ]; omega, fun p hp => ?_⟩
   rcases Nat.lt_or_ge p n with z | z
   ·exact h p z
   ·rw [show p = n by omega, hf]
    exact Nat.testBit_lt_two_pow hj
  | true =>
   refine ⟨2 ^ n + j, by rw [Nat.pow_succ]; omega, fun p hp => ?_⟩
   rcases Nat.lt_or_ge p n with z | z
   ·rw [<- h p z]
    exact Nat.testBit_two_pow_add_gt z j
   ·rw [show p = n by omega, hf]
    show (2 ^ n + j).testBit n = true
    rw [Nat.testBit_two_pow_add_eq, Nat.testBit_lt_two_pow hj]
    rfl
theorem KF_congr {n : Nat} {f g : Nat -> Bool} (h : ∀ p, p < n -> f p = g p) : KF n f = KF n g := filter_congr fun p hp => h p (List.mem_range.mp hp)
theorem bit_at (j p : Nat) : (Builtin.bitAnd ((j : Int) / 2 ^ p) 1 == 1) = bitF j p := by
 have e : (j : Int) / 2 ^ p = ((j / 2 ^ p : Nat) : Int) := by norm_cast
 rw [e]
 have e2 : Builtin.bitAnd ((j / 2 ^ p : Nat) : Int) 1 = ((j / 2 ^ p % 2 : Nat) : Int) := by
  unfold Builtin.bitAnd
  rw [show decide ((0 : Int) <= ((j / 2 ^ p : Nat) : Int)) = true from decide_eq_true (Int.natCast_nonneg _)]
  show (((((j / 2 ^ p : Nat) : Int).toNat &&& (1 : Int).toNat : Nat)) : Int) = _
  rw [Int.toNat_natCast, show (1 : Int).toNat = 1 from rfl, Nat.and_one_is_mod]
 rw [e2]
 unfold bitF
 rw [Nat.testBit_eq_decide_div_mod_eq, Bool.eq_iff_iff, beq_iff_eq, decide_eq_true_eq]
 omega
theorem KF_mem {n : Nat} {f : Nat -> Bool} (p : Nat) : p ∈ KF n f ↔ p < n /\ f p = true := by unfold KF; rw [mem_filter, mem_range]
def eA (n : Nat) (F : List (List Nat)) (o2 : Option S) : Ro := [some (.sh (.int (n : Int))), some (.own (F.map L)), o2]
theorem L_NI (l : List Nat) : D.lst ((NI l).map .int) = L l := by unfold NI L dN; rw [map_map]; rfl
theorem all_comp (n : Nat) (hn : n <= 900) (j : Nat) (F : List (List Nat)) : mcomp [none, some 2] (mlist rng1 (acons (mvar 0) anil)) (.nm 0) (mtest (m2 eqSD (m2 andD (m2 shrD (mvar 1) (mvar 0)) (mc (.int 1))) (mc (.int 1)))) (mvar 0) (eA n F (some (.sh (.int (j : Int))))) = some ((NI (KF n (bitF j))).map .int) := by
 have big := size_big
 unfold mcomp mlist
 rw [acons_ev (d := .int (n : Int)) rfl anil_ev, Option.bind_some, rng1_ok (okR_of (by omega) (by omega)), Option.bind_some, Int.toNat_natCast, rangeD_li, map_map]
 refine (compD_filter (f := D.int ∘ fun (i : Nat) => (i : Int)) (p := bitF j) (G := fun (i : Nat) => D.int (i : Int)) (fun is ρ => ∃ x, ρ = [x, some (.sh (.int (j : Int)))]) (by
  rintro i is ρ ⟨x, rfl⟩
  refine ⟨[some (.sh (.int (i : Int))), some (.sh (.int (j : Int)))], rfl, mtest_bl ?_, fun _ => rfl, _, rfl⟩
  have e1 : m2 shrD (mvar 1) (mvar 0) [some (.sh (.int (i : Int))), some (.sh (.int (j : Int)))] = some (.int ((j : Int) / 2 ^ i)) := by
   rw [m2_at (a := .int (j : Int)) (b := .int (i : Int)) rfl rfl]
   show (if shrOk (j : Int) (i : Int) = true then some (D.int ((j : Int) / 2 ^ (i : Int).toNat)) else none) = _
   rw [if_pos (by unfold shrOk; exact decide_eq_true (Int.natCast_nonneg i)), Int.toNat_natCast]
  rw [m2_at ((m2_at e1 (b := .int 1) rfl).trans (show andD (.int ((j : Int) / 2 ^ i)) (.int 1) = some (.int (Builtin.bitAnd ((j : Int) / 2 ^ i) 1)) from rfl)) (b := .int 1) rfl]
  unfold eqSD
  rw [eqS_ii, bit_at]
  rfl) (List.range n) _ [] ⟨none, rfl⟩ (le_size (by simp; omega))).trans ?_
 rw [nil_append]
 unfold NI KF
 rw [map_map]
 rfl
theorem all_eq (n : Nat) (hn : n <= 9) : m_Z12 [.int (n : Int)] = some (.fr (((List.range (2 ^ n)).map fun j => KF n (bitF j)).map L)) := by
 have big := size_big
 have hp : 2 ^ n <= 512 := by
  have : 2 ^ n <= 2 ^ 9 := Nat.pow_le_pow_right (by decide) hn
  exact this
 unfold m_Z12 b_Z12
 refine runB_rf ?_
 refine seqI (ρ' := eA n [] none) (by unfold eA; simp_arith [Nat.zero_le, if_true]) ?_
 have e0 : mlist rng1 (acons (m2 shlD (mc (.int 1)) (mvar 0)) anil) (eA n [] none) = some ((List.range (2 ^ n)).map fun (i : Nat) => D.int (i : Int)) := by
  have es : m2 shlD (mc (.int 1)) (mvar 0) (eA n [] none) = some (.int ((2 ^ n : Nat) : Int)) := by
   rw [m2_at (a := .int 1) (b := .int (n : Int)) rfl rfl]
   show (if powOk 1 (n : Int) = true then some (D.int (1 * 2 ^ (n : Int).toNat)) else none) = _
   rw [if_pos (by unfold powOk; rw [decide_eq_true (by omega), decide_eq_true (by omega)]; rfl), Int.toNat_natCast, Int.one_mul]
   norm_cast
  have okr : okR ((2 ^ n : Nat) : Int) = true := by
   generalize 2 ^ n = N at hp ⊢
   exact okR_of (by omega) (by omega)
  unfold mlist
  rw [acons_ev es anil_ev, Option.bind_some, rng1_ok okr, Int.toNat_natCast, rangeD_li, map_map]
  rfl
 refine seq_forN (2 ^ n) e0 (I := fun i ρ => i <= 2 ^ n /\ ∃ o2, ρ = eA n ((List.range i).map fun j => KF n (bitF j)) o2) (Q := fun o => ∃ o2, o = .nx (eA n ((List.range (2 ^ n)).map fun j => KF n (bitF j)) o2)) ⟨Nat.zero_le _, none, rfl⟩ ?_ ?_ ?_
 ·rintro i ρ hi ⟨_, o2, rfl⟩
  refine ⟨eA n ((List.range i).map fun j => KF n (bitF j)) (some (.sh (.int (i : Int)))), .nx (eA n ((List.range (i + 1)).map fun j => KF n (bitF j)) (some (.sh (.int (i : Int))))), rfl, ?_, by omega, _, rfl⟩
  unfold b_Z12_f0
  have hz : (((List.range i).map fun j => KF n (bitF j)).map L).length < sizeLine := by simp; omega
  have ec := mlst_ev (all_comp n (by omega) i ((List.range i).map fun j => KF n (bitF j)))
  rw [L_NI] at ec
  have ha : ∀ (x : ME) (d : D), x (eA n ((List.range i).map fun j => KF n (bitF j)) (some (.sh (.int (i : Int))))) = some d -> mapp 1 x (eA n ((List.range i).map fun j => KF n (bitF j)) (some (.sh (.int (i : Int))))) = some (.nx [some (.sh (.int (n : Int))), some (.own ((((List.range i).map fun j => KF n (bitF j)).map L) ++ [d])), some (.sh (.int (i : Int)))]) := fun x d h => by
   unfold mapp
   rw [h]
   unfold eA
   simp_arith [hz, if_true]
  rw [ha _ _ ec]
  unfold eA
  rw [range_succ, map_append, map_append]
  rfl
 ·rintro ρ ⟨_, o2, rfl⟩
  exact ⟨o2, rfl⟩
 ·rintro o ⟨o2, rfl⟩
  rfl
end
section
open PySem L2
theorem NI_inj : ∀ {a b : List Nat}, NI a = NI b -> a = b
 | [], [], _ => rfl
 | [], _ :: _, h => by cases h
 | _ :: _, [], h => by cases h
 | x :: a, y :: b, h => by
  obtain ⟨h1, h2⟩ := List.cons.inj h
  have h1 : (x : Int) = (y : Int) := h1
  rw [show x = y by omega, NI_inj h2]
theorem wv_iff (row : List Int) (s : Int) (hs : 1 <= s) (K : List Nat) : wrest row s (-1) none (NI K) = true ↔ Wv (xr row) row.length s K := by
 constructor
 ·intro h
  cases K with
  | nil => exact .inl rfl
  | cons p K =>
   have h : wrest row s (-1) none ((p : Int) :: NI K) = true := h
   rw [wrest] at h
   by_cases q : (p : Int) <= -1 \/ (row.length : Int) <= p
   ·rw [if_pos q] at h; cases h
   ·rw [if_neg q, if_neg (by omega)] at h
    obtain ⟨l, d, e, _, hd⟩ := of_wrest row s hs (NI K) p none (by omega) h
    rw [NI_inj e]
    exact .inr ⟨d, hd⟩
 ·intro h
  rw [<- areW_eq row (NI K) s hs]
  exact areW_wv row s hs K h
theorem Wd_up {x : Nat -> Int} {n : Nat} {s : Int} : ∀ {l : List Nat} {d : Bool} {p : Nat}, Wd x n s d (p :: l) -> (p :: l).Pairwise (· < ·) /\ ∀ y ∈ p :: l, y < n
 | [], d, p, h => ⟨pairwise_singleton .., fun y hy => by rw [List.mem_singleton.mp hy]; exact h⟩
 | q :: l, d, p, h => by
  obtain ⟨h1, h2⟩ := Wd_up h.2.2
  have hq := List.pairwise_cons.mp h1
  refine ⟨List.pairwise_cons.mpr ⟨fun y hy => ?_, h1⟩, fun y hy => ?_⟩
  ·rcases List.mem_cons.mp hy with rfl | hy
   ·exact h.1
   ·exact Nat.lt_trans h.1 (hq.1 y hy)
  ·rcases List.mem_cons.mp hy with rfl | hy
   ·exact h.lt
   ·exact h2 y hy
theorem up_ext : ∀ {a b : List Nat}, a.Pairwise (· < ·) -> b.Pairwise (· < ·) -> (∀ x, x ∈ a ↔ x ∈ b) -> a = b
 | [], [], _, _, _ => rfl
 | [], y :: b, _, _, h => by have := (h y).mpr (by simp); cases this
 | x :: a, [], _, _, h => by have := (h x).mp (by simp); cases this
 | x :: a, y :: b, ha, hb, h => by
  have h1 := List.pairwise_cons.mp ha
  have h2 := List.pairwise_cons.mp hb
  have e : x = y := by
   rcases List.mem_cons.mp ((h x).mp (by simp)) with e | e
   ·exact e
   ·rcases List.mem_cons.mp ((h y).mpr (by simp)) with e2 | e2
    ·exact e2.symm
    ·have := h2.1 x e
     have := h1.1 y e2
     omega
  subst e
  congr 1
  refine up_ext h1.2 h2.2 fun z => ⟨fun hz => ?_, fun hz => ?_⟩
  ·rcases List.mem_cons.mp ((h z).mp (by simp [hz])) with e | e
   ·have := h1.1 z hz; omega
   ·exact e
  ·rcases List.mem_cons.mp ((h z).mpr (by simp [hz])) with e | e
   ·have := h2.1 z hz; omega
   ·exact e
theorem wv_bits {x : Nat -> Int} {n : Nat} {s : Int} {l : List Nat} (h : Wv x n s l) : ∃ j, j < 2 ^ n /\ KF n (bitF j) = l := by
 obtain ⟨j, hj, hb⟩ := bits_of (fun p => decide (p ∈ l)) n
 refine ⟨j, hj, ?_⟩
 rw [KF_congr hb]
 have hl : l.Pairwise (· < ·) /\ ∀ y ∈ l, y < n := by
  rcases h with rfl | ⟨d, h⟩
  ·exact ⟨List.Pairwise.nil, fun y hy => by cases hy⟩
  ·cases l with
   | nil => exact h.elim
   | cons p l => exact Wd_up h
 refine up_ext (List.Pairwise.filter _ pairwise_lt_range) hl.1 fun y => ?_
 rw [KF_mem, decide_eq_true_eq]
 exact ⟨fun z => z.2, fun z => ⟨hl.2 y z, z⟩⟩
theorem lt_L (a b : List Nat) : ltF 8 (L a) (L b) = some (lx a b) := lexF_nn 6 a b
theorem minP_L : ∀ (ls : List (List Nat)) (b : List Nat), ∃ r, minP (ls.map L) (L b) = some (L r) /\ r ∈ b :: ls /\ ∀ m ∈ b :: ls, lx m r = false
 | [], b => ⟨b, rfl, by simp, by simp [lx_irr]⟩
 | m :: ls, b => by
  rw [map_cons, minP, lt_L]
  cases h : lx m b with
  | true =>
   obtain ⟨r, e, hm, ha⟩ := minP_L ls m
   refine ⟨r, e, by simp at hm ⊢; rcases hm with z | z <;> simp [z], fun k hk => ?_⟩
   rcases List.mem_cons.mp hk with rfl | hk
   ·cases z : lx k r with
    | false => rfl
    | true => rw [<- ha m (by simp), lx_trans h z]
   ·exact ha k hk
  | false =>
   obtain ⟨r, e, hm, ha⟩ := minP_L ls b
   refine ⟨r, e, by simp at hm ⊢; rcases hm with z | z <;> simp [z], fun k hk => ?_⟩
   rcases List.mem_cons.mp hk with rfl | hk
   ·exact ha k (by simp)
   ·rcases List.mem_cons.mp hk with rfl | hk
    ·cases z : lx k r with
     | false => rfl
     | true =>
      have hb := ha b (by simp)
      rcases lx_tri b k with e | e | e
      ·rw [<- e, hb] at z; cases z
      ·rw [<- hb, lx_trans e z]
      ·rw [h] at e; cases e
    ·exact ha k (by simp [hk])
theorem min_best {P : List Nat -> Prop} {l : List Nat} (hB : Best P l) {ls : List (List Nat)} (hl : l ∈ ls) (hP : ∀ m ∈ ls, P m /\ m.length = l.length) {m : ML} {ρ : Ro} (h : m ρ = some (ls.map L)) : mminP m ρ = some (L l) := by
 cases ls with
 | nil => cases hl
 | cons b ls =>
  rw [mminP_ev h]
  obtain ⟨r, e, hm, ha⟩ := minP_L ls b
  rw [e]
  have h1 := ha l hl
  obtain ⟨p1, p2⟩ := hP r hm
  have h2 := hB.2 r p1
  have h3 : lx r l = false := by
   cases z : lx r l with
   | false => rfl
   | true => rw [<- h2, (ahead_iff r l).mpr (.inr ⟨p2, z⟩)]
  rcases lx_tri r l with e | e | e
  ·rw [e]
  ·rw [h3] at e; cases e
  ·rw [h1] at e; cases e
end
section
open PySem L2
theorem maxI_mem : ∀ (x : Int) (r : List Int), maxI (x :: r) ∈ x :: r /\ ∀ y ∈ x :: r, y <= maxI (x :: r) := fun x r => foldMax r x
abbrev RW (row : List Int) : D := .lst (row.map .int)
def eL (scr : D) (c : Int) (row : List Int) (st : D) (o4 : Option S) (s : Int) (o6 o7 o8 : Option S) : Ro := [some (.sh scr), some (.sh (.int c)), some (.sh (RW row)), some (.sh st), o4, some (.sh (.int s)), o6, o7, o8]
theorem L_len (K : List Nat) : mlen (bvar 0) [some (.sh (L K))] = some (.int (K.length : Int)) := by
 rw [mlen_ev (show bvar 0 [some (.sh (L K))] = some (K.map dN) from rfl), length_map]
theorem step_ok (scr : D) (c : Int) (row : List Int) (st : D) (o4 : Option S) (s : Int) (hs : 1 <= s) (hr : row.length <= 9) (o6 o7 o8 : Option S) : ∃ p6 p7 p8, b_Z16_f1 (eL scr c row st o4 s o6 o7 o8) = some (.nx (eL scr c row st o4 s p6 p7 p8)) := by
 have big := size_big
 obtain ⟨l, el, hB⟩ := longest_eq row s hs (by omega)
 have eh := how_long_eq row s l el
 have hp : 2 ^ row.length <= 512 := by
  have : 2 ^ row.length <= 2 ^ 9 := Nat.pow_le_pow_right (by decide) hr
  exact this
 have eall := all_eq row.length hr
 have hkl : ∀ j, (KF row.length (bitF j)).length <= 9 := fun j => by
  have := length_filter_le (bitF j) (List.range row.length)
  rw [length_range] at this
  unfold KF
  omega
 generalize hA : ((List.range (2 ^ row.length)).map fun j => KF row.length (bitF j)) = all at eall
 have hAl : all.length <= 512 := by rw [<- hA, length_map, length_range]; exact hp
 have hAk : ∀ K ∈ all, K.length <= 9 := fun K hK => by
  rw [<- hA] at hK
  obtain ⟨j, _, rfl⟩ := List.mem_map.mp hK
  exact hkl j
 generalize hW : all.filter (fun K => wrest row s (-1) none (NI K)) = wavy
 have hWl : wavy.length <= 512 := by rw [<- hW]; exact Nat.le_trans (length_filter_le _ _) hAl
 have hWm : ∀ K ∈ wavy, Wv (xr row) row.length s K /\ K.length <= 9 := fun K hK => by
  rw [<- hW] at hK
  obtain ⟨h1, h2⟩ := List.mem_filter.mp hK
  exact ⟨(wv_iff row s hs K).mp h2, hAk K h1⟩
 have hlW : l ∈ wavy := by
  obtain ⟨j, hj, e⟩ := wv_bits hB.1
  rw [<- hW, mem_filter]
  exact ⟨by rw [<- hA]; exact List.mem_map.mpr ⟨j, List.mem_range.mpr hj, e⟩, (wv_iff row s hs l).mpr hB.1⟩
 have hl9 := (hWm l hlW).2
 refine ⟨some (.sh (.lst (wavy.map L))), some (.sh (.int (l.length : Int))), some (.sh (L l)), ?_⟩
 unfold b_Z16_f1
 refine seqI (ρ' := eL scr c row st o4 s (some (.sh (.lst (wavy.map L)))) o7 o8) ((mset_ev (mlst_ev ?_)).trans rfl) ?_
 ·unfold mcomp
  rw [aslst_ev (ds := all.map L) (mcall_fr (acons_ev (d := .int (row.length : Int)) (by rw [mlen_ev (show bvar 2 (eL scr c row st o4 s o6 o7 o8) = some (row.map .int) from rfl), length_map]) anil_ev) eall), Option.bind_some]
  refine (compD_filter (f := L) (p := fun K => wrest row s (-1) none (NI K)) (G := L) (fun is ρ => (∀ K ∈ is, K.length <= 9) /\ ∃ x, ρ = [x, some (.sh (RW row)), some (.sh (.int s))]) (by
   rintro K is ρ ⟨hi, x, rfl⟩
   have hk := hi K (by simp)
   refine ⟨[some (.sh (L K)), some (.sh (RW row)), some (.sh (.int s))], rfl, mtru_bl ?_, fun _ => rfl, fun j hj => hi j (by simp [hj]), _, rfl⟩
   exact mcall_sh (acons_ev (d := RW row) rfl (acons_ev (d := .int s) rfl (acons_ev (d := .lst ((NI K).map .int)) (by rw [L_NI]; rfl) anil_ev))) (law_wavy_eq row (NI K) s hs (by unfold NI; rw [length_map]; omega))) all _ [] ⟨hAk, none, rfl⟩ (le_size (by simp; omega))).trans ?_
  rw [hW]
  rfl
 refine seqI (ρ' := eL scr c row st o4 s (some (.sh (.lst (wavy.map L)))) (some (.sh (.int (l.length : Int)))) o8) ((mset_ev ?_).trans rfl) ?_
 ·have ec : mcomp [none] (aslst (mvar 6)) (.nm 0) cyes (mlen (bvar 0)) (eL scr c row st o4 s (some (.sh (.lst (wavy.map L)))) o7 o8) = some ((wavy.map fun K => (K.length : Int)).map .int) := by
   unfold mcomp
   rw [aslst_ev (ds := wavy.map L) rfl, Option.bind_some]
   refine (compD_map (f := L) (G := fun K => D.int (K.length : Int)) (fun _ ρ => ∃ x, ρ = [x]) (by
    rintro K is ρ ⟨x, rfl⟩
    exact ⟨[some (.sh (L K))], rfl, rfl, L_len K, _, rfl⟩) wavy _ [] ⟨none, rfl⟩ (le_size (by simp; omega))).trans ?_
   rw [map_map]
   rfl
  cases hw : wavy with
  | nil => rw [hw] at hlW; cases hlW
  | cons b r =>
   rw [hw] at ec
   rw [hw] at hlW hWm
   rw [mmaxL_ev (x := (b.length : Int)) (r := r.map fun K => (K.length : Int)) ec]
   have hmx := maxI_mem (b.length : Int) (r.map fun K => (K.length : Int))
   obtain ⟨K, hK, e⟩ := List.mem_map.mp (show maxI ((b.length : Int) :: r.map fun K => (K.length : Int)) ∈ (b :: r).map fun K => (K.length : Int) from hmx.1)
   have h1 := hmx.2 (l.length : Int) (show (l.length : Int) ∈ (b :: r).map fun K => (K.length : Int) from List.mem_map.mpr ⟨l, hlW, rfl⟩)
   have h2 := hB.len K (hWm K hK).1
   have e : (K.length : Int) = maxI ((b.length : Int) :: r.map fun K => (K.length : Int)) := e
   rw [show maxI ((b.length : Int) :: r.map fun K => (K.length : Int)) = (l.length : Int) by omega]
 refine seqI (ρ' := eL scr c row st o4 s (some (.sh (.lst (wavy.map L)))) (some (.sh (.int (l.length : Int)))) (some (.sh (L l)))) ((mset_ev ?_).trans rfl) ?_
 ·refine min_best hB (ls := wavy.filter fun K => ((K.length : Int) == (l.length : Int))) (List.mem_filter.mpr ⟨hlW, by simp⟩) (fun m hm => ?_) ?_
  ·obtain ⟨h1, h2⟩ := List.mem_filter.mp hm
   have := beq_iff_eq.mp h2
   exact ⟨(hWm m h1).1, by omega⟩
  ·unfold mcomp
   rw [aslst_ev (ds := wavy.map L) rfl, Option.bind_some]
   exact (compD_filter (f := L) (p := fun K => ((K.length : Int) == (l.length : Int))) (G := L) (fun _ ρ => ∃ x, ρ = [x, some (.sh (.int (l.length : Int)))]) (by
    rintro K is ρ ⟨x, rfl⟩
    refine ⟨[some (.sh (L K)), some (.sh (.int (l.length : Int)))], rfl, mtest_bl ?_, fun _ => rfl, _, rfl⟩
    rw [m2_at (mlen_ev (show bvar 0 [some (.sh (L K)), some (.sh (.int (l.length : Int)))] = some (K.map dN) from rfl)) (b := .int (l.length : Int)) rfl, length_map]
    rfl) wavy _ [] ⟨none, rfl⟩ (le_size (by simp; omega))).trans rfl
 have hsame : m_Z2 [L l, L l] = some (.sh (.bl true)) := by
  rw [<- L_NI]
  exact same1_lst (NI l) (by unfold NI; rw [length_map]; omega)
 refine seqI (ρ' := eL scr c row st o4 s (some (.sh (.lst (wavy.map L)))) (some (.sh (.int (l.length : Int)))) (some (.sh (L l)))) (mif_false ((cor_ev (a := false) (b := false) ?_ (mtest_bl ?_)).trans rfl)) ?_
 ·exact (cnot_ev (b := true) (mtru_bl (mcall_sh (acons_ev (mcall_sh (acons_ev (d := RW row) rfl (acons_ev (d := .int s) rfl anil_ev)) el) (acons_ev (d := L l) rfl anil_ev)) hsame))).trans rfl
 ·rw [m2_at (mcall_sh (acons_ev (d := RW row) rfl (acons_ev (d := .int s) rfl anil_ev)) eh) (b := .int (l.length : Int)) rfl]
  unfold neSD
  rw [eqS_ii]
  simp
 refine mif_false ((cnot_ev (b := true) (mtru_bl ?_)).trans rfl)
 have ew := are_wavy_eq row (NI l) s hs (by unfold NI; rw [length_map]; omega)
 rw [areW_wv row s hs l hB.1, L_NI] at ew
 exact mcall_sh (acons_ev (d := RW row) rfl (acons_ev (d := .int s) rfl (acons_ev (d := L l) rfl anil_ev))) ew
end
section
open PySem L2
theorem cutI_le {α : Type} (xs : List α) (lo hi : Option Int) : (cutI xs lo hi).length <= xs.length := by
 unfold cutI
 rw [length_take, length_drop]
 omega
def eM (scr : D) (c : Int) (row ss : List Int) (o4 o5 o6 o7 o8 : Option S) : Ro := [some (.sh scr), some (.sh (.int c)), some (.sh (RW row)), some (.sh (RW ss)), o4, o5, o6, o7, o8]
theorem more_steps (scr : D) (c : Int) (row ss : List Int) (one : Int) (o5 o6 o7 o8 : Option S) (hr : row.length <= 9) (hs : ss.length <= 40) : ∃ ts : List Int, ts.length <= 9 /\ (∀ t ∈ ts, 1 <= t) /\ b_Z16_f0 (eM scr c row ss (some (.sh (.int one))) o5 o6 o7 o8) = some (.nx (eM scr c row (ss ++ ts) (some (.sh (.int one))) o5 o6 o7 o8)) := by
 have big := size_big
 have hcl := cutI_le row (some (-3)) none
 generalize hcu : cutI row (some (-3)) none = cu at hcl
 refine ⟨cu.map fun x => (if (if one - x < 0 then -(one - x) else one - x) > 1 then (if one - x < 0 then -(one - x) else one - x) else 1), by rw [length_map]; omega, fun t ht => ?_, ?_⟩
 ·obtain ⟨x, _, rfl⟩ := List.mem_map.mp ht
  split <;> omega
 ·unfold b_Z16_f0
  have e1 : mcut (bvar 2) (osome (m1 negD (mc (.int 3)))) onone (eM scr c row ss (some (.sh (.int one))) o5 o6 o7 o8) = some (cu.map .int) := by
   unfold eM RW
   simp_arith [cutL_map]
   rw [hcu]
  have ec : mcomp [none, some 4] (aslst (mlst (mcut (bvar 2) (osome (m1 negD (mc (.int 3)))) onone))) (.nm 0) cyes (call1 max2F (acons (mc (.int 1)) (acons (call1 absF (acons (m2 subD (mvar 1) (mvar 0)) anil)) anil))) (eM scr c row ss (some (.sh (.int one))) o5 o6 o7 o8) = some ((cu.map fun x => (if (if one - x < 0 then -(one - x) else one - x) > 1 then (if one - x < 0 then -(one - x) else one - x) else 1)).map .int) := by
   unfold mcomp
   rw [aslst_ev (mlst_ev e1), Option.bind_some]
   refine (compD_map (f := D.int) (G := fun x => D.int (if (if one - x < 0 then -(one - x) else one - x) > 1 then (if one - x < 0 then -(one - x) else one - x) else 1)) (fun _ ρ => ∃ x, ρ = [x, some (.sh (.int one))]) (by
    rintro x is ρ ⟨y, rfl⟩
    refine ⟨[some (.sh (.int x)), some (.sh (.int one))], rfl, rfl, ?_, _, rfl⟩
    rw [call1_ev (acons_ev (d := .int 1) rfl (acons_ev (d := .int (if one - x < 0 then -(one - x) else one - x)) ((call1_ev (acons_ev (d := .int (one - x)) ((m2_at (a := .int one) (b := .int x) rfl rfl).trans rfl) anil_ev)).trans rfl) anil_ev))]
    rfl) cu _ [] ⟨none, rfl⟩ (le_size (by simp; omega))).trans ?_
   rw [map_map]
   rfl
  have em := mcat_ev (show bvar 3 (eM scr c row ss (some (.sh (.int one))) o5 o6 o7 o8) = some (ss.map .int) from rfl) ec (by rw [length_map, length_map, length_map]; omega)
  rw [<- map_append] at em
  exact (mset_ev (mlst_ev em)).trans rfl
theorem cell_ok (scr : D) (c : Int) (o2 o3 o4 o5 o6 o7 o8 : Option S) : ∃ p2 p3 p4 p5 p6 p7 p8, b_Z16_f2 [some (.sh scr), some (.sh (.int c)), o2, o3, o4, o5, o6, o7, o8] = some (.nx [some (.sh scr), some (.sh (.int c)), p2, p3, p4, p5, p6, p7, p8]) := by
 have big := size_big
 have i1 : 0 + 1 <= sizeLine := le_size (by decide)
 have i2 : 0 + 1 + 1 <= sizeLine := le_size (by decide)
 obtain ⟨row, hr, er⟩ := row_eq c 9 (by decide)
 have q1000 : modOk (stir c 320) 1000 = true := modOk_of _ _ (by decide)
 have hss : ∃ ss : List Int, ∃ p4, ss ≠ [] /\ ss.length <= 29 /\ (∀ t ∈ ss, 1 <= t) /\ mfor (aslst (mlst (mcut (bvar 2) onone (osome (mc (.int 3)))))) (.nm 4) b_Z16_f0 (eM scr c row [1, 2 + stir c 320 % 1000] o4 o5 o6 o7 o8) = some (.nx (eM scr c row ss p4 o5 o6 o7 o8)) := by
  have h1000 : 0 <= stir c 320 % 1000 := Int.emod_nonneg _ (by decide)
  have ht : (row.take 3).length <= 3 := by rw [length_take]; omega
  obtain ⟨o, e, ss, p4, rfl, h1, h2, h3⟩ := forD_post (g := .nm 4) (body := b_Z16_f0) (f := D.int) (fun ds ρ => ∃ ss p4, ρ = eM scr c row ss p4 o5 o6 o7 o8 /\ ss ≠ [] /\ ss.length + 9 * ds.length <= 29 /\ ∀ t ∈ ss, 1 <= t) (fun o => ∃ ss p4, o = .nx (eM scr c row ss p4 o5 o6 o7 o8) /\ ss ≠ [] /\ ss.length <= 29 /\ ∀ t ∈ ss, 1 <= t)
   (by
    rintro d ds ρ ⟨ss, p4, rfl, h1, h2, h3⟩
    simp only [length_cons] at h2
    obtain ⟨ts, t1, t2, e⟩ := more_steps scr c row ss d o5 o6 o7 o8 hr (by omega)
    refine ⟨eM scr c row ss (some (.sh (.int d))) o5 o6 o7 o8, _, rfl, e, ss ++ ts, _, rfl, by simp [h1], by rw [length_append]; omega, fun t ht => ?_⟩
    rcases List.mem_append.mp ht with ht | ht
    ·exact h3 t ht
    ·exact t2 t ht)
   (by rintro ρ ⟨ss, p4, rfl, h1, h2, h3⟩; exact ⟨ss, p4, rfl, h1, by simpa using h2, h3⟩) (row.take 3) (eM scr c row [1, 2 + stir c 320 % 1000] o4 o5 o6 o7 o8)
   ⟨_, _, rfl, by simp, by simp only [length_cons, length_nil]; omega, fun t ht => by
    simp only [mem_cons, not_mem_nil, or_false] at ht
    rcases ht with rfl | rfl <;> omega⟩
  refine ⟨ss, p4, h1, h2, h3, ?_⟩
  have e1 : mcut (bvar 2) onone (osome (mc (.int 3))) (eM scr c row [1, 2 + stir c 320 % 1000] o4 o5 o6 o7 o8) = some ((row.take 3).map .int) := by
   have : cutL (row.map D.int) none (some ((3 : Nat) : Int)) = (row.take 3).map .int := by rw [cutL_map, cutI_to]
   unfold mcut
   exact congrArg some this
  unfold mfor
  rw [aslst_ev (mlst_ev e1), Option.bind_some]
  exact e
 obtain ⟨ss, p4, h1, h2, h3, es⟩ := hss
 obtain ⟨x, r, rfl⟩ : ∃ x r, ss = x :: r := by
  cases ss with
  | nil => exact absurd rfl h1
  | cons x r => exact ⟨x, r, rfl⟩
 have hmx := maxI_mem x r
 have hmx1 := h3 _ hmx.1
 generalize hq : (isort (ddI (x :: r))).take 4 = qs
 have hqs : ∀ t ∈ qs, 1 <= t := fun t ht => by
  rw [<- hq] at ht
  have h4 := (isort_perm _).mem_iff.mp (mem_of_mem_take ht)
  have h5 := PyProof.Rows.firstMet_any (fun i => (x :: r).getD i 0) (x :: r).length t
  have h6 : (PyProof.Rows.firstMet (fun i => (x :: r).getD i 0) (x :: r).length).any (· == t) = true := List.any_eq_true.mpr ⟨t, h4, by simp⟩
  rw [h5] at h6
  obtain ⟨y, hy, e⟩ := List.any_eq_true.mp h6
  rw [beq_iff_eq] at e
  subst e
  obtain ⟨i, hi, rfl⟩ := List.mem_map.mp hy
  have hi := List.mem_range.mp hi
  refine h3 _ ?_
  rw [getD_eq_getElem?_getD, getElem?_eq_getElem hi]
  exact getElem_mem hi
 have hql : qs.length <= 4 := by rw [<- hq, length_take]; omega
 have el : mcat (mcut (msortSet (bvar 3)) onone (osome (mc (.int 4)))) (sized (acons (m2 addD (mmaxL (bvar 3)) (mc (.int 1))) anil)) (eM scr c row (x :: r) p4 o5 o6 o7 o8) = some ((qs ++ [maxI (x :: r) + 1]).map .int) := by
  have e1 : msortSet (bvar 3) (eM scr c row (x :: r) p4 o5 o6 o7 o8) = some ((isort (ddI (x :: r))).map .int) := by
   unfold msortSet
   rw [show bvar 3 (eM scr c row (x :: r) p4 o5 o6 o7 o8) = some ((x :: r).map .int) from rfl]
   simp only [intsD_map]
   rw [if_pos (by omega)]
  have e2 : mcut (msortSet (bvar 3)) onone (osome (mc (.int 4))) (eM scr c row (x :: r) p4 o5 o6 o7 o8) = some (qs.map .int) := by
   have : cutL ((isort (ddI (x :: r))).map D.int) none (some ((4 : Nat) : Int)) = qs.map .int := by rw [cutL_map, cutI_to, hq]
   unfold mcut
   rw [e1]
   exact congrArg some this
  have e3 := mmaxL_ev (x := x) (r := r) (show bvar 3 (eM scr c row (x :: r) p4 o5 o6 o7 o8) = some ((x :: r).map .int) from rfl)
  have e4 := sized_ev (acons_ev (d := .int (maxI (x :: r) + 1)) ((m2_at (f := addD) (y := mc (.int 1)) e3 (b := .int 1) rfl).trans rfl) anil_ev) i1
  have e5 := mcat_ev e2 e4 (by rw [length_map]; simp; omega)
  rw [e5, map_append]
  rfl
 obtain ⟨o, ef, p5, p6, p7, p8, rfl⟩ := forD_post (g := .nm 5) (body := b_Z16_f1) (f := D.int) (fun ds ρ => (∀ t ∈ ds, 1 <= t) /\ ∃ p5 p6 p7 p8, ρ = eM scr c row (x :: r) p4 p5 p6 p7 p8) (fun o => ∃ p5 p6 p7 p8, o = .nx (eM scr c row (x :: r) p4 p5 p6 p7 p8))
  (by
   rintro d ds ρ ⟨hd, p5, p6, p7, p8, rfl⟩
   obtain ⟨q6, q7, q8, e⟩ := step_ok scr c row (RW (x :: r)) p4 d (hd d (by simp)) hr p6 p7 p8
   exact ⟨eL scr c row (RW (x :: r)) p4 d p6 p7 p8, _, rfl, e, fun t ht => hd t (by simp [ht]), _, _, _, _, rfl⟩)
  (by rintro ρ ⟨_, p5, p6, p7, p8, rfl⟩; exact ⟨_, _, _, _, rfl⟩) (qs ++ [maxI (x :: r) + 1]) (eM scr c row (x :: r) p4 o5 o6 o7 o8)
  ⟨fun t ht => by
   rcases List.mem_append.mp ht with ht | ht
   ·exact hqs t ht
   ·rw [List.mem_singleton.mp ht]; omega, _, _, _, _, rfl⟩
 refine ⟨some (.sh (RW row)), some (.sh (RW (x :: r))), p4, p5, p6, p7, p8, ?_⟩
 unfold b_Z16_f2
 refine seqI (ρ' := [some (.sh scr), some (.sh (.int c)), some (.sh (RW row)), o3, o4, o5, o6, o7, o8]) ((mset_ev (mcall_fr (acons_ev (d := .int c) rfl (acons_ev (d := .int ((9 : Nat) : Int)) rfl anil_ev)) er)).trans rfl) ?_
 refine seqI (ρ' := eM scr c row [1, 2 + stir c 320 % 1000] o4 o5 o6 o7 o8) ((mset_ev (mlst_ev (sized_ev (acons_ev (d := .int 1) rfl (acons_ev (d := .int (2 + stir c 320 % 1000)) ?_ anil_ev)) i2))).trans rfl) ?_
 ·have e1 : mcall m_Z11 (acons (mvar 1) (acons (mc (.int 320)) anil)) [some (.sh scr), some (.sh (.int c)), some (.sh (RW row)), o3, o4, o5, o6, o7, o8] = some (.int (stir c 320)) := mcall_sh (acons_ev (d := .int c) rfl (acons_ev (d := .int 320) rfl anil_ev)) (stir_eq c 320 (by decide))
  have e2 : m2 modD (mcall m_Z11 (acons (mvar 1) (acons (mc (.int 320)) anil))) (mc (.int 1000)) [some (.sh scr), some (.sh (.int c)), some (.sh (RW row)), o3, o4, o5, o6, o7, o8] = some (.int (stir c 320 % 1000)) := by
   rw [m2_at e1 (b := .int 1000) rfl]
   show (if modOk (stir c 320) 1000 = true then some (D.int (stir c 320 % 1000)) else none) = _
   rw [if_pos q1000]
  exact (m2_at (a := .int 2) rfl e2).trans rfl
 refine seqI es ?_
 unfold mfor
 rw [aslst_ev (mlst_ev el), Option.bind_some]
 exact ef
theorem law_true (ns : List Int) (hn : ns.length <= 63) : m_Z16 [.lst (ns.map .int)] = some (.sh (.bl true)) := by
 obtain ⟨cs, ec⟩ := cells_eq ns 4 hn
 unfold m_Z16 b_Z16
 refine runB_rt ?_
 refine seq_for cs (f := D.int) (aslst_ev (mcall_fr (acons_ev (d := .lst (ns.map .int)) rfl (acons_ev (d := .int ((4 : Nat) : Int)) rfl anil_ev)) ec)) (I := fun _ ρ => ∃ p1 p2 p3 p4 p5 p6 p7 p8, ρ = [some (.sh (.lst (ns.map .int))), p1, p2, p3, p4, p5, p6, p7, p8]) (Q := fun o => ∃ p1 p2 p3 p4 p5 p6 p7 p8, o = .nx [some (.sh (.lst (ns.map .int))), p1, p2, p3, p4, p5, p6, p7, p8]) ⟨none, none, none, none, none, none, none, none, rfl⟩ ?_ ?_ ?_
 ·rintro c ks ρ ⟨p1, p2, p3, p4, p5, p6, p7, p8, rfl⟩
  obtain ⟨q2, q3, q4, q5, q6, q7, q8, e⟩ := cell_ok (.lst (ns.map .int)) c p2 p3 p4 p5 p6 p7 p8
  exact ⟨_, _, rfl, e, _, _, _, _, _, _, _, _, rfl⟩
 ·rintro ρ ⟨p1, p2, p3, p4, p5, p6, p7, p8, rfl⟩
  exact ⟨_, _, _, _, _, _, _, _, rfl⟩
 ·rintro o ⟨p1, p2, p3, p4, p5, p6, p7, p8, rfl⟩
  rfl
end
end
end Lw
namespace Lw
open List
open PySem L2
open PyProof.Rows
section
def top (i : Nat) : Stmt := PySem.Challenge.pw_wavyrow_k08_longest_of_short_rows.main.body.getD i (.Pass ⟨0, 0, 0, 0⟩)
section
variable (P : Program) (w : World) (K : W.Frag) (mg : Str -> Option Value) (base : Heap)
abbrev T_Z1 : Prop := QHd P w K mg base 1 "refuse_step" ["step"] (spR K 1 m_Z1)
abbrev T_Z5 : Prop := QHd P w K mg base 1 "are_places" ["row", "places"] (spR K 2 m_Z5)
abbrev T_Z8 : Prop := QHd P w K mg base 1 "turns_of" ["numbers"] (spR K 1 m_Z8)
abbrev T_Z4 : Prop := QHd P w K mg base 2 "go_by_turns" ["numbers", "step"] (spR K 2 m_Z4)
abbrev T_Z7 : Prop := QHd P w K mg base 3 "are_wavy" ["row", "step", "places"] (spR K 3 m_Z7)
abbrev T_Z15 : Prop := QHd P w K mg base 1 "tails" ["row", "step"] (spR K 2 m_Z15)
abbrev T_Z0 : Prop := QHd P w K mg base 1 "longer_first" ["places"] (spR K 1 m_Z0)
abbrev T_Z13 : Prop := QHd P w K mg base 3 "longest" ["row", "step"] (spR K 2 m_Z13)
abbrev T_Z10 : Prop := QHd P w K mg base 4 "how_long" ["row", "step"] (spR K 2 m_Z10)
abbrev T_Z11 : Prop := QHd P w K mg base 1 "_law_stir" ["cell", "k"] (spR K 2 m_Z11)
abbrev T_Z6 : Prop := QHd P w K mg base 1 "_law_cells" ["script", "many"] (spR K 2 m_Z6)
abbrev T_Z14 : Prop := QHd P w K mg base 2 "_law_row" ["cell", "most"] (spR K 2 m_Z14)
abbrev T_Z3 : Prop := QHd P w K mg base 1 "_law_same" ["found", "due"] (spR K 2 m_Z3)
abbrev T_Z2 : Prop := QHd P w K mg base 2 "_law_same" ["found", "due"] (spR K 2 m_Z2)
abbrev T_Z9 : Prop := QHd P w K mg base 1 "_law_wavy" ["row", "step", "places"] (spR K 3 m_Z9)
abbrev T_Z12 : Prop := QHd P w K mg base 1 "_law_all" ["size"] (spR K 1 m_Z12)
end
abbrev Zs (mg : Str -> Option Value) : Prop := mg "abs" = none /\ mg "bool" = none /\ mg "int" = none /\ mg "isinstance" = none /\ mg "len" = none /\ mg "list" = none /\ mg "max" = none /\ mg "min" = none /\ mg "range" = none /\ mg "reversed" = none /\ mg "set" = none /\ mg "sorted" = none /\ mg "str" = none /\ mg "tuple" = none /\ mg "zip" = none /\ True
theorem z_abs {mg : Str -> Option Value} (Z : Zs mg) : mg "abs" = none := Z.1
theorem z_bool {mg : Str -> Option Value} (Z : Zs mg) : mg "bool" = none := Z.2.1
theorem z_int {mg : Str -> Option Value} (Z : Zs mg) : mg "int" = none := Z.2.2.1
theorem z_isinstance {mg : Str -> Option Value} (Z : Zs mg) : mg "isinstance" = none := Z.2.2.2.1
theorem z_len {mg : Str -> Option Value} (Z : Zs mg) : mg "len" = none := Z.2.2.2.2.1
theorem z_list {mg : Str -> Option Value} (Z : Zs mg) : mg "list" = none := Z.2.2.2.2.2.1
theorem z_max {mg : Str -> Option Value} (Z : Zs mg) : mg "max" = none := Z.2.2.2.2.2.2.1
theorem z_min {mg : Str -> Option Value} (Z : Zs mg) : mg "min" = none := Z.2.2.2.2.2.2.2.1
theorem z_range {mg : Str -> Option Value} (Z : Zs mg) : mg "range" = none := Z.2.2.2.2.2.2.2.2.1
theorem z_reversed {mg : Str -> Option Value} (Z : Zs mg) : mg "reversed" = none := Z.2.2.2.2.2.2.2.2.2.1
theorem z_set {mg : Str -> Option Value} (Z : Zs mg) : mg "set" = none := Z.2.2.2.2.2.2.2.2.2.2.1
theorem z_sorted {mg : Str -> Option Value} (Z : Zs mg) : mg "sorted" = none := Z.2.2.2.2.2.2.2.2.2.2.2.1
theorem z_str {mg : Str -> Option Value} (Z : Zs mg) : mg "str" = none := Z.2.2.2.2.2.2.2.2.2.2.2.2.1
theorem z_tuple {mg : Str -> Option Value} (Z : Zs mg) : mg "tuple" = none := Z.2.2.2.2.2.2.2.2.2.2.2.2.2.1
theorem z_zip {mg : Str -> Option Value} (Z : Zs mg) : mg "zip" = none := Z.2.2.2.2.2.2.2.2.2.2.2.2.2.2.1
variable {P : Program} {w : World} {K : W.Frag} {mg : Str -> Option Value} {base : Heap}
abbrev s_Z1 : Stmt := top 4
abbrev N_Z1 : List Str := ["step"]
theorem sc_Z1 : FnScope N_Z1 ["step"] (defScope s_Z1) := qsc
theorem ok_Z1 (D : QDf K mg "refuse_step" s_Z1 ["step"]) : T_Z1 P w K mg base :=
 D.mk fun f fd Fn => Fn.okD (k := 0) (m := b_Z1) sc_Z1 fun cdv A outer s H E hr => (pssd_one (psd_if (pc_cmp op_lt opd_lt (pd_var 0 (pv 0)) pd_int (nomark _)) (pssd_one psd_never) pssd_nil))
abbrev s_Z5 : Stmt := top 5
abbrev N_Z5 : List Str := ["row", "places", "least", "place"]
theorem sc_Z5 : FnScope N_Z5 ["row", "places"] (defScope s_Z5) := qsc
theorem ok_Z5 (D : QDf K mg "are_places" s_Z5 ["row", "places"]) (Z : Zs mg) : T_Z5 P w K mg base :=
 D.mk fun f fd Fn => Fn.okD (k := 0) (m := b_Z5) sc_Z5 fun cdv A outer s H E hr => (pssd_cons (psd_set (i := 2) sc_Z5.nd rfl (Or.inl rfl) pd_int) (pssd_cons (psd_for PassesOwn.never rfl (pid_seq (pd_var 1 (pv 1))) (pgd_name (i := 3) (pg_name sc_Z5.nd rfl (Or.inl rfl))) (pssd_cons (psd_if (pc_w (pcw_or (pc_cmp op_lt opd_lt (pd_var 3 (pv 3)) (pd_var 2 (pv 2)) (nomark _)) (pw1_or (pc_cmp op_ge opd_ge (pd_var 3 (pv 3)) (pd_lenB rfl (z_len Z) (pb_var 0 (pv 0))) (nomark _))))) (pssd_one (psd_ret pd_bl)) pssd_nil) (pssd_one (psd_set (i := 2) sc_Z5.nd rfl (Or.inl rfl) (pd_add (pd_var 3 (pv 3)) pd_int))))) (pssd_one (psd_ret pd_bl))))
abbrev s_Z8 : Stmt := top 6
abbrev N_Z8 : List Str := ["numbers", "many", "left", "middle", "right"]
theorem sc_Z8 : FnScope N_Z8 ["numbers"] (defScope s_Z8) := qsc
theorem ok_Z8 (D : QDf K mg "turns_of" s_Z8 ["numbers"]) (Z : Zs mg) : T_Z8 P w K mg base :=
 D.mk fun f fd Fn => Fn.okD (k := 0) (m := b_Z8) sc_Z8 fun cdv A outer s H E hr => (pssd_cons (psd_set (i := 1) sc_Z8.nd rfl (Or.inl rfl) pd_int) (pssd_cons (psd_for PassesOwn.never rfl (pid_zip3 rfl (z_zip Z) (pas_cons (pd_var 0 (pv 0)) (pas_cons (pf_pd (pf_sl (pb_var 0 (pv 0)) (pos_some pd_int) pos_none)) (pas_cons (pf_pd (pf_sl (pb_var 0 (pv 0)) (pos_some pd_int) pos_none)) pas_nil)))) (pgd_tup (is := [2, 3, 4]) (pg_tup rfl (pgs_cons (pg_name (i := 2) sc_Z8.nd rfl (Or.inl rfl)) (pgs_cons (pg_name (i := 3) sc_Z8.nd rfl (Or.inl rfl)) (pgs_cons (pg_name (i := 4) sc_Z8.nd rfl (Or.inl rfl)) pgs_nil))))) (pssd_one (psd_if (pc_w (pcw_or (pc_cmp op_lt opd_lt (pd_max2 rfl rfl (z_max Z) (pas_cons (pd_var 2 (pv 2)) (pas_cons (pd_var 4 (pv 4)) pas_nil))) (pd_var 3 (pv 3)) (nomark _)) (pw1_or (pc_cmp op_lt opd_lt (pd_var 3 (pv 3)) (pd_min2 rfl rfl (z_min Z) (pas_cons (pd_var 2 (pv 2)) (pas_cons (pd_var 4 (pv 4)) pas_nil))) (nomark _))))) (pssd_one (psd_aug (i := 1) sc_Z8.nd rfl (Or.inl rfl) pd_int)) pssd_nil))) (pssd_one (psd_retO 1 (pv 1)))))
abbrev s_Z4 : Stmt := top 7
abbrev N_Z4 : List Str := ["numbers", "step", "left", "right"]
theorem sc_Z4 : FnScope N_Z4 ["numbers", "step"] (defScope s_Z4) := qsc
theorem ok_Z4 (D : QDf K mg "go_by_turns" s_Z4 ["numbers", "step"]) (H_Z8 : T_Z8 P w K mg base) (Z : Zs mg) : T_Z4 P w K mg base :=
 D.mk fun f fd Fn => Fn.okD (k := 1) (m := b_Z4) sc_Z4 fun cdv A outer s H E hr => (pssd_cons (psd_for PassesOwn.never rfl (pid_zip2 rfl (z_zip Z) (pas_cons (pd_var 0 (pv 0)) (pas_cons (pf_pd (pf_sl (pb_var 0 (pv 0)) (pos_some pd_int) pos_none)) pas_nil))) (pgd_tup (is := [2, 3]) (pg_tup rfl (pgs_cons (pg_name (i := 2) sc_Z4.nd rfl (Or.inl rfl)) (pgs_cons (pg_name (i := 3) sc_Z4.nd rfl (Or.inl rfl)) pgs_nil)))) (pssd_one (psd_if (pc_cmp op_lt opd_lt (pd_abs rfl (z_abs Z) (pas_cons (pd_sub (pd_var 3 (pv 3)) (pd_var 2 (pv 2))) pas_nil)) (pd_var 1 (pv 1)) (nomark _)) (pssd_one (psd_ret pd_bl)) pssd_nil))) (pssd_one (psd_ret (pd_cmp op_eq opd_eqS (pd_call (fun t ha => qcl H_Z8 hr ha) rfl (pas_cons (pd_var 0 (pv 0)) pas_nil) qal1) (pd_max2 rfl rfl (z_max Z) (pas_cons pd_int (pas_cons (pd_sub (pd_lenB rfl (z_len Z) (pb_var 0 (pv 0))) pd_int) pas_nil))) (nomark _)))))
abbrev s_Z7 : Stmt := top 8
abbrev N_Z7 : List Str := ["row", "step", "places"]
theorem sc_Z7 : FnScope N_Z7 ["row", "step", "places"] (defScope s_Z7) := qsc
theorem nd_are_wavy_0 : List.Nodup (["place", "row"] : List Str) := by decide +kernel
theorem ok_Z7 (D : QDf K mg "are_wavy" s_Z7 ["row", "step", "places"]) (H_Z5 : T_Z5 P w K mg base) (H_Z4 : T_Z4 P w K mg base) (H_Z1 : T_Z1 P w K mg base) : T_Z7 P w K mg base :=
 D.mk fun f fd Fn => Fn.okD (k := 2) (m := b_Z7) sc_Z7 fun cdv A outer s H E hr => (pssd_cons (psd_expr (pd_call (fun t ha => qcl H_Z1 hr ha) rfl (pas_cons (pd_var 1 (pv 1)) pas_nil) qal1)) (pssd_one (psd_ret (pd_and (pd_call (fun t ha => qcl H_Z5 hr ha) rfl (pas_cons (pd_var 0 (pv 0)) (pas_cons (pd_var 2 (pv 2)) pas_nil)) qal2) (pd_one (pd_call (fun t ha => qcl H_Z4 hr ha) rfl (pas_cons (pf_pd (pf_comp (blk_of (N := ["place", "row"]) (src := [none, some 0]) (defScope s_Z7) N_Z7 rfl rfl (by decide +kernel)) rfl (pid_seq (pd_var 2 (pv 2))) (fun C fp s0 H0 => (pgd_name (i := 0) (pg_name nd_are_wavy_0 rfl (Or.inl rfl)))) (fun C fp s0 H0 => ptsd_nil) (fun C fp s0 H0 => (pd_ix (pb_var 1 (pv 1)) (pd_var 0 (pv 0)))))) (pas_cons (pd_var 1 (pv 1)) pas_nil)) qal2))))))
abbrev s_Z15 : Stmt := top 10
abbrev N_Z15 : List Str := ["row", "step", "ups", "downs", "place", "later", "rise"]
theorem sc_Z15 : FnScope N_Z15 ["row", "step"] (defScope s_Z15) := qsc
theorem nd_tails_0 : List.Nodup (["place"] : List Str) := by decide +kernel
theorem nd_tails_1 : List.Nodup (["place"] : List Str) := by decide +kernel
theorem ok_Z15 (D : QDf K mg "tails" s_Z15 ["row", "step"]) (Z : Zs mg) : T_Z15 P w K mg base :=
 D.mk fun f fd Fn => Fn.okD (k := 0) (m := b_Z15) sc_Z15 fun cdv A outer s H E hr => (pssd_cons (psd_setC (ps_setC (i := 2) sc_Z15.nd rfl (Or.inl rfl) (blk_of (N := ["place"]) (src := [none]) (defScope s_Z15) N_Z15 rfl rfl (by decide +kernel)) rfl (pid_range1 rfl (z_range Z) (pas_cons (pd_lenB rfl (z_len Z) (pb_var 0 (pv 0))) pas_nil)) (fun C fp s0 H0 => (pgd_name (i := 0) (pg_name nd_tails_0 rfl (Or.inl rfl)))) (fun C fp s0 H0 => ptsd_nil) (fun C fp s0 H0 => (pf_pd (pf_lst (pas_cons (pd_var 0 (pv 0)) pas_nil)))))) (pssd_cons (psd_setC (ps_setC (i := 3) sc_Z15.nd rfl (Or.inl rfl) (blk_of (N := ["place"]) (src := [none]) (defScope s_Z15) N_Z15 rfl rfl (by decide +kernel)) rfl (pid_range1 rfl (z_range Z) (pas_cons (pd_lenB rfl (z_len Z) (pb_var 0 (pv 0))) pas_nil)) (fun C fp s0 H0 => (pgd_name (i := 0) (pg_name nd_tails_1 rfl (Or.inl rfl)))) (fun C fp s0 H0 => ptsd_nil) (fun C fp s0 H0 => (pf_pd (pf_lst (pas_cons (pd_var 0 (pv 0)) pas_nil)))))) (pssd_cons (psd_for PassesOwn.never rfl (pid_revR1 rfl (z_reversed Z) rfl (z_range Z) (pas_cons (pd_lenB rfl (z_len Z) (pb_var 0 (pv 0))) pas_nil)) (pgd_name (i := 4) (pg_name sc_Z15.nd rfl (Or.inl rfl))) (pssd_one (psd_for PassesOwn.never rfl (pid_range2 rfl (z_range Z) (pas_cons (pd_add (pd_var 4 (pv 4)) pd_int) (pas_cons (pd_lenB rfl (z_len Z) (pb_var 0 (pv 0))) pas_nil))) (pgd_name (i := 5) (pg_name sc_Z15.nd rfl (Or.inl rfl))) (pssd_cons (psd_set (i := 6) sc_Z15.nd rfl (Or.inl rfl) (pd_sub (pd_ix (pb_var 0 (pv 0)) (pd_var 5 (pv 5))) (pd_ix (pb_var 0 (pv 0)) (pd_var 4 (pv 4))))) (pssd_cons (psd_if (pc_w (pcw_and (pc_cmp op_ge opd_ge (pd_var 6 (pv 6)) (pd_var 1 (pv 1)) (nomark _)) (pw1_and (pc_cmp op_ge opd_ge (pd_lenB rfl (z_len Z) (pd_pb (pd_ix (pb_var 3 (pv 3)) (pd_var 5 (pv 5))))) (pd_lenB rfl (z_len Z) (pd_pb (pd_ix (pb_var 2 (pv 2)) (pd_var 4 (pv 4))))) (nomark _))))) (pssd_one (psd_setix (i := 2) (ps_asg (pf_pd (pf_cat (pf_pb (pf_lst (pas_cons (pd_var 4 (pv 4)) pas_nil))) (pd_pb (pd_ix (pb_var 3 (pv 3)) (pd_var 5 (pv 5)))))) (pg_sub (pv 2) (pd_var 4 (pv 4)) set_list)))) pssd_nil) (pssd_one (psd_if (pc_w (pcw_and (pc_cmp op_ge opd_ge (pd_neg (pd_var 6 (pv 6))) (pd_var 1 (pv 1)) (nomark _)) (pw1_and (pc_cmp op_ge opd_ge (pd_lenB rfl (z_len Z) (pd_pb (pd_ix (pb_var 2 (pv 2)) (pd_var 5 (pv 5))))) (pd_lenB rfl (z_len Z) (pd_pb (pd_ix (pb_var 3 (pv 3)) (pd_var 4 (pv 4))))) (nomark _))))) (pssd_one (psd_setix (i := 3) (ps_asg (pf_pd (pf_cat (pf_pb (pf_lst (pas_cons (pd_var 4 (pv 4)) pas_nil))) (pd_pb (pd_ix (pb_var 2 (pv 2)) (pd_var 5 (pv 5)))))) (pg_sub (pv 3) (pd_var 4 (pv 4)) set_list)))) pssd_nil))))))) (pssd_freeze 2 (pssd_freeze 3 (pssd_one (psd_ret (pd_tup (pas_cons (pd_var 2 (pv 2)) (pas_cons (pd_var 3 (pv 3)) pas_nil))))))))))
abbrev s_Z0 : Stmt := top 11
abbrev N_Z0 : List Str := ["places"]
theorem sc_Z0 : FnScope N_Z0 ["places"] (defScope s_Z0) := qsc
theorem ok_Z0 (D : QDf K mg "longer_first" s_Z0 ["places"]) (Z : Zs mg) : T_Z0 P w K mg base :=
 D.mk fun f fd Fn => Fn.okD (k := 0) (m := b_Z0) sc_Z0 fun cdv A outer s H E hr => (pssd_one (psd_ret (pd_tup (pas_cons (pd_neg (pd_lenB rfl (z_len Z) (pb_var 0 (pv 0)))) (pas_cons (pd_var 0 (pv 0)) pas_nil)))))
abbrev s_Z13 : Stmt := top 12
abbrev N_Z13 : List Str := ["row", "step", "ups", "downs"]
theorem sc_Z13 : FnScope N_Z13 ["row", "step"] (defScope s_Z13) := qsc
theorem ok_Z13 (D : QDf K mg "longest" s_Z13 ["row", "step"]) (H_Z0 : T_Z0 P w K mg base) (H_Z1 : T_Z1 P w K mg base) (H_Z15 : T_Z15 P w K mg base) (Z : Zs mg) : T_Z13 P w K mg base := by
 obtain ⟨x_Z0, d_Z0, G_Z0, b_Z0, k_Z0, a_Z0⟩ := H_Z0
 exact D.mk fun f fd Fn => Fn.okD (k := 2) (m := b_Z13) sc_Z13 fun cdv A outer s H E hr => (pssd_cons (psd_expr (pd_call (fun t ha => qcl H_Z1 hr ha) rfl (pas_cons (pd_var 1 (pv 1)) pas_nil) qal1)) (pssd_cons (psd_asg (ps_asg (pd_call (fun t ha => qcl H_Z15 hr ha) rfl (pas_cons (pd_var 0 (pv 0)) (pas_cons (pd_var 1 (pv 1)) pas_nil)) qal2) (pgd_tup (is := [2, 3]) (pg_tup rfl (pgs_cons (pg_name (i := 2) sc_Z13.nd rfl (Or.inl rfl)) (pgs_cons (pg_name (i := 3) sc_Z13.nd rfl (Or.inl rfl)) pgs_nil)))))) (pssd_one (psd_ret (pd_minK (keyAt_fn (G_Z0.mono (by decide)) hr.in1 b_Z0) rfl hr.units rfl (z_min Z) rfl a_Z0 (pd_pb (pd_add (pd_var 2 (pv 2)) (pd_var 3 (pv 3)))) (pf_pd (pf_lst pas_nil)))))))
abbrev s_Z10 : Stmt := top 13
abbrev N_Z10 : List Str := ["row", "step"]
theorem sc_Z10 : FnScope N_Z10 ["row", "step"] (defScope s_Z10) := qsc
theorem ok_Z10 (D : QDf K mg "how_long" s_Z10 ["row", "step"]) (H_Z13 : T_Z13 P w K mg base) (Z : Zs mg) : T_Z10 P w K mg base :=
 D.mk fun f fd Fn => Fn.okD (k := 3) (m := b_Z10) sc_Z10 fun cdv A outer s H E hr => (pssd_one (psd_ret (pd_lenB rfl (z_len Z) (pd_pb (pd_call (fun t ha => qcl H_Z13 hr ha) rfl (pas_cons (pd_var 0 (pv 0)) (pas_cons (pd_var 1 (pv 1)) pas_nil)) qal2)))))
abbrev s_Z11 : Stmt := top 15
abbrev N_Z11 : List Str := ["cell", "k", "number"]
theorem sc_Z11 : FnScope N_Z11 ["cell", "k"] (defScope s_Z11) := qsc
theorem ok_Z11 (D : QDf K mg "_law_stir" s_Z11 ["cell", "k"]) : T_Z11 P w K mg base :=
 D.mk fun f fd Fn => Fn.okD (k := 0) (m := b_Z11) sc_Z11 fun cdv A outer s H E hr => (pssd_cons (psd_if (pc_cmp op_ge opd_ge (pd_var 0 (pv 0)) (pd_pow pd_int pd_int) (nomark _)) (pssd_one (psd_ret (pd_mod (pd_shr (pd_sub (pd_var 0 (pv 0)) (pd_pow pd_int pd_int)) (pd_mul pd_int (pd_var 1 (pv 1)))) (pd_pow pd_int pd_int)))) pssd_nil) (pssd_cons (psd_set (i := 2) sc_Z11.nd rfl (Or.inl rfl) (pd_mod (pd_mul (pd_add (pd_add (pd_var 0 (pv 0)) (pd_mul pd_int (pd_var 1 (pv 1)))) pd_int) pd_int) pd_int)) (pssd_cons (psd_set (i := 2) sc_Z11.nd rfl (Or.inl rfl) (pd_mod (pd_mul (pd_var 2 (pv 2)) (pd_var 2 (pv 2))) pd_int)) (pssd_one (psd_ret (pd_fdiv (pd_mod (pd_mul (pd_var 2 (pv 2)) pd_int) pd_int) pd_int))))))
abbrev s_Z6 : Stmt := top 16
abbrev N_Z6 : List Str := ["script", "many"]
theorem sc_Z6 : FnScope N_Z6 ["script", "many"] (defScope s_Z6) := qsc
theorem ok_Z6 (D : QDf K mg "_law_cells" s_Z6 ["script", "many"]) (Z : Zs mg) : T_Z6 P w K mg base :=
 D.mk fun f fd Fn => Fn.okD (k := 0) (m := b_Z6) sc_Z6 fun cdv A outer s H E hr => (pssd_one (psd_retF (pf_sl (pf_pb (pf_cat (pf_pb (pf_sl (pb_var 0 (pv 0)) pos_none (pos_some (pd_var 1 (pv 1))))) (pf_pb (pf_lst (pas_cons pd_int pas_nil))))) pos_none (pos_some (pd_max2 rfl rfl (z_max Z) (pas_cons pd_int (pas_cons (pd_min2 rfl rfl (z_min Z) (pas_cons (pd_var 1 (pv 1)) (pas_cons (pd_lenB rfl (z_len Z) (pb_var 0 (pv 0))) pas_nil))) pas_nil)))))))
abbrev s_Z14 : Stmt := top 17
abbrev N_Z14 : List Str := ["cell", "most", "size", "kind", "wide", "block", "found", "last", "k", "one", "some"]
theorem sc_Z14 : FnScope N_Z14 ["cell", "most"] (defScope s_Z14) := qsc
theorem ok_Z14 (D : QDf K mg "_law_row" s_Z14 ["cell", "most"]) (H_Z11 : T_Z11 P w K mg base) (Z : Zs mg) : T_Z14 P w K mg base :=
 D.mk fun f fd Fn => Fn.okD (k := 1) (m := b_Z14) sc_Z14 fun cdv A outer s H E hr => (pssd_cons (psd_set (i := 2) sc_Z14.nd rfl (Or.inl rfl) (pd_mod (pd_call (fun t ha => qcl H_Z11 hr ha) rfl (pas_cons (pd_var 0 (pv 0)) (pas_cons pd_int pas_nil)) qal2) (pd_ix (pf_pb (pf_lst (pas_cons pd_int (pas_cons pd_int (pas_cons pd_int (pas_cons (pd_add (pd_var 1 (pv 1)) pd_int) pas_nil)))))) (pd_mod (pd_call (fun t ha => qcl H_Z11 hr ha) rfl (pas_cons (pd_var 0 (pv 0)) (pas_cons pd_int pas_nil)) qal2) pd_int)))) (pssd_cons (psd_set (i := 3) sc_Z14.nd rfl (Or.inl rfl) (pd_mod (pd_call (fun t ha => qcl H_Z11 hr ha) rfl (pas_cons (pd_var 0 (pv 0)) (pas_cons pd_int pas_nil)) qal2) pd_int)) (pssd_cons (psd_set (i := 4) sc_Z14.nd rfl (Or.inl rfl) (pd_ix (pf_pb (pf_lst (pas_cons pd_int (pas_cons pd_int (pas_cons pd_int (pas_cons (pd_pow pd_int pd_int) pas_nil)))))) (pd_mod (pd_call (fun t ha => qcl H_Z11 hr ha) rfl (pas_cons (pd_var 0 (pv 0)) (pas_cons pd_int pas_nil)) qal2) pd_int))) (pssd_cons (psd_set (i := 5) sc_Z14.nd rfl (Or.inl rfl) (pd_add pd_int (pd_mod (pd_call (fun t ha => qcl H_Z11 hr ha) rfl (pas_cons (pd_var 0 (pv 0)) (pas_cons pd_int pas_nil)) qal2) pd_int))) (pssd_cons (psd_setF (i := 6) sc_Z14.nd rfl (Or.inl rfl) (pf_lst pas_nil)) (pssd_cons (psd_set (i := 7) sc_Z14.nd rfl (Or.inl rfl) pd_int) (pssd_cons (psd_for PassesOwn.never rfl (pid_range1 rfl (z_range Z) (pas_cons (pd_min2 rfl rfl (z_min Z) (pas_cons (pd_var 2 (pv 2)) (pas_cons (pd_var 1 (pv 1)) pas_nil))) pas_nil)) (pgd_name (i := 8) (pg_name sc_Z14.nd rfl (Or.inl rfl))) (pssd_cons (psd_set (i := 9) sc_Z14.nd rfl (Or.inl rfl) (pd_mod (pd_call (fun t ha => qcl H_Z11 hr ha) rfl (pas_cons (pd_var 0 (pv 0)) (pas_cons (pd_add pd_int (pd_var 8 (pv 8))) pas_nil)) qal2) (pd_var 4 (pv 4)))) (pssd_cons (psd_set (i := 7) sc_Z14.nd rfl (Or.inl rfl) (pd_sub (pd_add (pd_var 7 (pv 7)) (pd_var 9 (pv 9))) (pd_fdiv (pd_var 4 (pv 4)) pd_int))) (pssd_cons (psd_set (i := 10) sc_Z14.nd rfl (Or.inl rfl) (pf_pd (pf_lst (pas_cons (pd_sub (pd_var 9 (pv 9)) (pd_fdiv (pd_var 4 (pv 4)) pd_int)) (pas_cons (pd_add (pd_var 8 (pv 8)) (pd_fdiv (pd_var 9 (pv 9)) pd_int)) (pas_cons (pd_sub (pd_sub pd_int (pd_var 8 (pv 8))) (pd_fdiv (pd_var 9 (pv 9)) pd_int)) (pas_cons (pd_ix (pf_pb (pf_lst (pas_cons (pd_var 9 (pv 9)) (pas_cons (pd_sub pd_int (pd_var 9 (pv 9))) pas_nil)))) (pd_mod (pd_var 8 (pv 8)) pd_int)) pas_nil))))))) (pssd_cons (psd_set (i := 10) sc_Z14.nd rfl (Or.inl rfl) (pf_pd (pf_cat (pb_var 10 (pv 10)) (pf_pb (pf_lst (pas_cons (pd_add (pd_var 9 (pv 9)) (pd_mul (pd_mod (pd_fdiv (pd_var 8 (pv 8)) (pd_var 5 (pv 5))) pd_int) (pd_var 4 (pv 4)))) (pas_cons (pd_var 4 (pv 4)) (pas_cons (pd_add (pd_mul (pd_sub (pd_var 9 (pv 9)) (pd_fdiv (pd_var 4 (pv 4)) pd_int)) (pd_pow pd_int pd_int)) (pd_mod (pd_call (fun t ha => qcl H_Z11 hr ha) rfl (pas_cons (pd_var 0 (pv 0)) (pas_cons (pd_add pd_int (pd_var 8 (pv 8))) pas_nil)) qal2) pd_int)) pas_nil)))))))) (pssd_one (psd_append (i := 6) (pv 6) (pd_ix (pf_pb (pf_cat (pb_var 10 (pv 10)) (pf_pb (pf_lst (pas_cons (pd_var 7 (pv 7)) pas_nil))))) (pd_var 3 (pv 3))) (fun t ha => qap (pv 6) ha) (pas_cons (pd_ix (pf_pb (pf_cat (pb_var 10 (pv 10)) (pf_pb (pf_lst (pas_cons (pd_var 7 (pv 7)) pas_nil))))) (pd_var 3 (pv 3))) pas_nil)))))))) (pssd_one (psd_retO 6 (pv 6))))))))))
abbrev s_law_same : Stmt := top 18
abbrev s_Z3 : Stmt := top 18
abbrev N_Z3 : List Str := ["found", "due"]
theorem sc_Z3 : FnScope N_Z3 ["found", "due"] (defScope s_Z3) := qsc
theorem ok_Z3 (D : QDf K mg "_law_same" s_Z3 ["found", "due"]) (Z : Zs mg) : T_Z3 P w K mg base :=
 D.mk fun f fd Fn => Fn.okD (k := 0) (m := b_Z3) sc_Z3 fun cdv A outer s H E hr => (pssd_cons (psd_if (pc_tru (pd_isi (C := "str") rfl (z_isinstance Z) rfl (z_str Z) PyProof.Rows.boot_str (pd_var 1 (pv 1)))) (pssd_one (psd_ret (pd_and (pd_isi (C := "str") rfl (z_isinstance Z) rfl (z_str Z) PyProof.Rows.boot_str (pd_var 0 (pv 0))) (pd_one (pd_cmp op_eq opd_eqS (pd_var 0 (pv 0)) (pd_var 1 (pv 1)) (nomark _)))))) pssd_nil) (pssd_cons (psd_if (pc_tru (pd_isi2 (C1 := "list") (C2 := "tuple") rfl (z_isinstance Z) rfl (z_list Z) PyProof.Rows.boot_list rfl (z_tuple Z) PyProof.Rows.boot_tuple (pd_var 1 (pv 1)))) (pssd_cons (psd_if (pc_w (pcw_or (pc_cmp op_ne opd_neS (pd_isi (C := "list") rfl (z_isinstance Z) rfl (z_list Z) PyProof.Rows.boot_list (pd_var 0 (pv 0))) (pd_isi (C := "list") rfl (z_isinstance Z) rfl (z_list Z) PyProof.Rows.boot_list (pd_var 1 (pv 1))) (nomark _)) (pw1_or (pc_not (pc_tru (pd_isi2 (C1 := "list") (C2 := "tuple") rfl (z_isinstance Z) rfl (z_list Z) PyProof.Rows.boot_list rfl (z_tuple Z) PyProof.Rows.boot_tuple (pd_var 0 (pv 0)))))))) (pssd_one (psd_ret pd_bl)) pssd_nil) (pssd_cons (psd_if (pc_cmp op_ne opd_neS (pd_len rfl (z_len Z) (pas_cons (pd_var 0 (pv 0)) pas_nil)) (pd_len rfl (z_len Z) (pas_cons (pd_var 1 (pv 1)) pas_nil)) (nomark _)) (pssd_one (psd_ret pd_bl)) pssd_nil) (pssd_one psd_never))) pssd_nil) (pssd_one (psd_ret (pd_and (pd_isi (C := "int") rfl (z_isinstance Z) rfl (z_int Z) PyProof.Rows.boot_int (pd_var 0 (pv 0))) (pd_and (pd_not (pd_isi (C := "bool") rfl (z_isinstance Z) rfl (z_bool Z) PyProof.Rows.boot_bool (pd_var 0 (pv 0)))) (pd_one (pd_cmp op_eq opd_eqS (pd_var 0 (pv 0)) (pd_var 1 (pv 1)) (nomark _)))))))))
abbrev s_Z2 : Stmt := top 18
abbrev N_Z2 : List Str := ["found", "due"]
theorem sc_Z2 : FnScope N_Z2 ["found", "due"] (defScope s_Z2) := qsc
theorem nd_law_same_v1_0 : List.Nodup (["one", "other"] : List Str) := by decide +kernel
theorem ok_Z2 (D : QDf K mg "_law_same" s_Z2 ["found", "due"]) (H_Z3 : T_Z3 P w K mg base) (Z : Zs mg) : T_Z2 P w K mg base :=
 D.mk fun f fd Fn => Fn.okD (k := 1) (m := b_Z2) sc_Z2 fun cdv A outer s H E hr => (pssd_cons (psd_if (pc_tru (pd_isi (C := "str") rfl (z_isinstance Z) rfl (z_str Z) PyProof.Rows.boot_str (pd_var 1 (pv 1)))) (pssd_one (psd_ret (pd_and (pd_isi (C := "str") rfl (z_isinstance Z) rfl (z_str Z) PyProof.Rows.boot_str (pd_var 0 (pv 0))) (pd_one (pd_cmp op_eq opd_eqS (pd_var 0 (pv 0)) (pd_var 1 (pv 1)) (nomark _)))))) pssd_nil) (pssd_cons (psd_if (pc_tru (pd_isi2 (C1 := "list") (C2 := "tuple") rfl (z_isinstance Z) rfl (z_list Z) PyProof.Rows.boot_list rfl (z_tuple Z) PyProof.Rows.boot_tuple (pd_var 1 (pv 1)))) (pssd_cons (psd_if (pc_w (pcw_or (pc_cmp op_ne opd_neS (pd_isi (C := "list") rfl (z_isinstance Z) rfl (z_list Z) PyProof.Rows.boot_list (pd_var 0 (pv 0))) (pd_isi (C := "list") rfl (z_isinstance Z) rfl (z_list Z) PyProof.Rows.boot_list (pd_var 1 (pv 1))) (nomark _)) (pw1_or (pc_not (pc_tru (pd_isi2 (C1 := "list") (C2 := "tuple") rfl (z_isinstance Z) rfl (z_list Z) PyProof.Rows.boot_list rfl (z_tuple Z) PyProof.Rows.boot_tuple (pd_var 0 (pv 0)))))))) (pssd_one (psd_ret pd_bl)) pssd_nil) (pssd_cons (psd_if (pc_cmp op_ne opd_neS (pd_len rfl (z_len Z) (pas_cons (pd_var 0 (pv 0)) pas_nil)) (pd_len rfl (z_len Z) (pas_cons (pd_var 1 (pv 1)) pas_nil)) (nomark _)) (pssd_one (psd_ret pd_bl)) pssd_nil) (pssd_one (psd_ret (pd_eqB (op_eqF hr.units) (pf_pb (pf_comp (blk_of (N := ["one", "other"]) (src := [none, none]) (defScope s_Z2) N_Z2 rfl rfl (by decide +kernel)) rfl (pid_zip2 rfl (z_zip Z) (pas_cons (pd_var 0 (pv 0)) (pas_cons (pd_var 1 (pv 1)) pas_nil))) (fun C fp s0 H0 => (pgd_tup (is := [0, 1]) (pg_tup rfl (pgs_cons (pg_name (i := 0) nd_law_same_v1_0 rfl (Or.inl rfl)) (pgs_cons (pg_name (i := 1) nd_law_same_v1_0 rfl (Or.inl rfl)) pgs_nil))))) (fun C fp s0 H0 => (ptsd_one (pc_not (pc_tru (pd_call (fun t ha => qcl H_Z3 hr ha) rfl (pas_cons (pd_var 0 (pv 0)) (pas_cons (pd_var 1 (pv 1)) pas_nil)) qal2))))) (fun C fp s0 H0 => pd_int))) (pf_pb (pf_lst pas_nil)) (nomark _)))))) pssd_nil) (pssd_one (psd_ret (pd_and (pd_isi (C := "int") rfl (z_isinstance Z) rfl (z_int Z) PyProof.Rows.boot_int (pd_var 0 (pv 0))) (pd_and (pd_not (pd_isi (C := "bool") rfl (z_isinstance Z) rfl (z_bool Z) PyProof.Rows.boot_bool (pd_var 0 (pv 0)))) (pd_one (pd_cmp op_eq opd_eqS (pd_var 0 (pv 0)) (pd_var 1 (pv 1)) (nomark _)))))))))
abbrev s_Z9 : Stmt := top 19
abbrev N_Z9 : List Str := ["row", "step", "places", "last", "ways", "place", "far"]
theorem sc_Z9 : FnScope N_Z9 ["row", "step", "places"] (defScope s_Z9) := qsc
theorem ok_Z9 (D : QDf K mg "_law_wavy" s_Z9 ["row", "step", "places"]) (Z : Zs mg) : T_Z9 P w K mg base :=
 D.mk fun f fd Fn => Fn.okD (k := 0) (m := b_Z9) sc_Z9 fun cdv A outer s H E hr => (pssd_cons (psd_set (i := 3) sc_Z9.nd rfl (Or.inl rfl) (pd_neg pd_int)) (pssd_cons (psd_setF (i := 4) sc_Z9.nd rfl (Or.inl rfl) (pf_lst (pas_cons pd_non pas_nil))) (pssd_cons (psd_for PassesOwn.never rfl (pid_seq (pd_var 2 (pv 2))) (pgd_name (i := 5) (pg_name sc_Z9.nd rfl (Or.inl rfl))) (pssd_cons (psd_if (pc_w (pcw_or (pc_cmp op_le opd_le (pd_var 5 (pv 5)) (pd_var 3 (pv 3)) (nomark _)) (pw1_or (pc_cmp op_ge opd_ge (pd_var 5 (pv 5)) (pd_lenB rfl (z_len Z) (pb_var 0 (pv 0))) (nomark _))))) (pssd_one (psd_ret pd_bl)) pssd_nil) (pssd_cons (psd_if (pc_cmp op_gt opd_gt (pd_var 3 (pv 3)) (pd_neg pd_int) (nomark _)) (pssd_cons (psd_set (i := 6) sc_Z9.nd rfl (Or.inl rfl) (pd_sub (pd_ix (pb_var 0 (pv 0)) (pd_var 5 (pv 5))) (pd_ix (pb_var 0 (pv 0)) (pd_var 3 (pv 3))))) (pssd_cons (psd_if (pc_w (pcw_or (pc_cmp op_lt opd_lt (pd_abs rfl (z_abs Z) (pas_cons (pd_var 6 (pv 6)) pas_nil)) (pd_var 1 (pv 1)) (nomark _)) (pw1_or (pc_cmp op_eq opd_eqS (pd_ix (pb_var 4 (pv 4)) (pd_neg pd_int)) (pd_cmp op_gt opd_gt (pd_var 6 (pv 6)) pd_int (nomark _)) (nomark _))))) (pssd_one (psd_ret pd_bl)) pssd_nil) (pssd_one (psd_append (i := 4) (pv 4) (pd_cmp op_gt opd_gt (pd_var 6 (pv 6)) pd_int (nomark _)) (fun t ha => qap (pv 4) ha) (pas_cons (pd_cmp op_gt opd_gt (pd_var 6 (pv 6)) pd_int (nomark _)) pas_nil))))) pssd_nil) (pssd_one (psd_set (i := 3) sc_Z9.nd rfl (Or.inl rfl) (pd_var 5 (pv 5))))))) (pssd_one (psd_ret pd_bl)))))
abbrev s_Z12 : Stmt := top 20
abbrev N_Z12 : List Str := ["size", "found", "number"]
theorem sc_Z12 : FnScope N_Z12 ["size"] (defScope s_Z12) := qsc
theorem nd_law_all_0 : List.Nodup (["place", "number"] : List Str) := by decide +kernel
theorem ok_Z12 (D : QDf K mg "_law_all" s_Z12 ["size"]) (Z : Zs mg) : T_Z12 P w K mg base :=
 D.mk fun f fd Fn => Fn.okD (k := 0) (m := b_Z12) sc_Z12 fun cdv A outer s H E hr => (pssd_cons (psd_setF (i := 1) sc_Z12.nd rfl (Or.inl rfl) (pf_lst pas_nil)) (pssd_cons (psd_for PassesOwn.never rfl (pid_range1 rfl (z_range Z) (pas_cons (pd_shl pd_int (pd_var 0 (pv 0))) pas_nil)) (pgd_name (i := 2) (pg_name sc_Z12.nd rfl (Or.inr rfl))) (pssd_one (psd_append (i := 1) (pv 1) (pf_pd (pf_comp (blk_of (N := ["place", "number"]) (src := [none, some 2]) (defScope s_Z12) N_Z12 rfl rfl (by decide +kernel)) rfl (pid_range1 rfl (z_range Z) (pas_cons (pd_var 0 (pv 0)) pas_nil)) (fun C fp s0 H0 => (pgd_name (i := 0) (pg_name nd_law_all_0 rfl (Or.inl rfl)))) (fun C fp s0 H0 => (ptsd_one (pc_cmp op_eq opd_eqS (pd_band (pd_shr (pd_var 1 (pv 1)) (pd_var 0 (pv 0))) pd_int) pd_int (nomark _)))) (fun C fp s0 H0 => (pd_var 0 (pv 0))))) (fun t ha => qap (pv 1) ha) (pas_cons (pf_pd (pf_comp (blk_of (N := ["place", "number"]) (src := [none, some 2]) (defScope s_Z12) N_Z12 rfl rfl (by decide +kernel)) rfl (pid_range1 rfl (z_range Z) (pas_cons (pd_var 0 (pv 0)) pas_nil)) (fun C fp s0 H0 => (pgd_name (i := 0) (pg_name nd_law_all_0 rfl (Or.inl rfl)))) (fun C fp s0 H0 => (ptsd_one (pc_cmp op_eq opd_eqS (pd_band (pd_shr (pd_var 1 (pv 1)) (pd_var 0 (pv 0))) pd_int) pd_int (nomark _)))) (fun C fp s0 H0 => (pd_var 0 (pv 0))))) pas_nil)))) (pssd_one (psd_retO 1 (pv 1)))))
abbrev s_Z16 : Stmt := top 21
abbrev N_Z16 : List Str := ["script", "cell", "row", "steps", "one", "step", "wavy", "most", "due"]
theorem sc_Z16 : FnScope N_Z16 ["script"] (defScope s_Z16) := qsc
theorem nd_law_0 : List.Nodup (["other", "one"] : List Str) := by decide +kernel
theorem nd_law_1 : List.Nodup (["places", "row", "step"] : List Str) := by decide +kernel
theorem nd_law_2 : List.Nodup (["places"] : List Str) := by decide +kernel
theorem nd_law_3 : List.Nodup (["places", "most"] : List Str) := by decide +kernel
theorem ok_Z16 {f : Addr} {fd : FuncData} (Fn : Fun K "law" "law" s_Z16 f fd) (H_Z12 : T_Z12 P w K mg base) (H_Z6 : T_Z6 P w K mg base) (H_Z14 : T_Z14 P w K mg base) (H_Z2 : T_Z2 P w K mg base) (H_Z11 : T_Z11 P w K mg base) (H_Z9 : T_Z9 P w K mg base) (H_Z7 : T_Z7 P w K mg base) (H_Z10 : T_Z10 P w K mg base) (H_Z13 : T_Z13 P w K mg base) (Z : Zs mg) : FnOk P w K mg base CX0 5 f fd ["script"] (spR K 1 m_Z16) :=
 Fn.okD (k := 4) (m := b_Z16) sc_Z16 fun cdv A outer s H E hr => (pssd_cons (psd_for PassesOwn.never rfl (pid_seq (pd_call (fun t ha => qcl H_Z6 hr ha) rfl (pas_cons (pd_var 0 (pv 0)) (pas_cons pd_int pas_nil)) qal2)) (pgd_name (i := 1) (pg_name sc_Z16.nd rfl (Or.inl rfl))) (pssd_cons (psd_set (i := 2) sc_Z16.nd rfl (Or.inr rfl) (pd_call (fun t ha => qcl H_Z14 hr ha) rfl (pas_cons (pd_var 1 (pv 1)) (pas_cons pd_int pas_nil)) qal2)) (pssd_cons (psd_set (i := 3) sc_Z16.nd rfl (Or.inl rfl) (pf_pd (pf_lst (pas_cons pd_int (pas_cons (pd_add pd_int (pd_mod (pd_call (fun t ha => qcl H_Z11 hr ha) rfl (pas_cons (pd_var 1 (pv 1)) (pas_cons pd_int pas_nil)) qal2) pd_int)) pas_nil))))) (pssd_cons (psd_for PassesOwn.never rfl (pid_seq (pf_pd (pf_sl (pb_var 2 (pv 2)) pos_none (pos_some pd_int)))) (pgd_name (i := 4) (pg_name sc_Z16.nd rfl (Or.inr rfl))) (pssd_one (psd_set (i := 3) sc_Z16.nd rfl (Or.inl rfl) (pf_pd (pf_cat (pb_var 3 (pv 3)) (pf_pb (pf_comp (blk_of (N := ["other", "one"]) (src := [none, some 4]) (defScope s_Z16) N_Z16 rfl rfl (by decide +kernel)) rfl (pid_seq (pf_pd (pf_sl (pb_var 2 (pv 2)) (pos_some (pd_neg pd_int)) pos_none))) (fun C fp s0 H0 => (pgd_name (i := 0) (pg_name nd_law_0 rfl (Or.inl rfl)))) (fun C fp s0 H0 => ptsd_nil) (fun C fp s0 H0 => (pd_max2 rfl rfl (z_max Z) (pas_cons pd_int (pas_cons (pd_abs rfl (z_abs Z) (pas_cons (pd_sub (pd_var 1 (pv 1)) (pd_var 0 (pv 0))) pas_nil)) pas_nil))))))))))) (pssd_one (psd_for PassesOwn.never rfl (pid_seq (pf_pd (pf_cat (pf_pb (pf_sl (pf_pb (pf_sortSet rfl rfl (z_sorted Z) rfl (z_set Z) (pb_var 3 (pv 3)) PyProof.Rows.boot_sorted PyProof.Rows.boot_set)) pos_none (pos_some pd_int))) (pf_pb (pf_lst (pas_cons (pd_add (pd_maxL rfl rfl (z_max Z) (pb_var 3 (pv 3))) pd_int) pas_nil)))))) (pgd_name (i := 5) (pg_name sc_Z16.nd rfl (Or.inr rfl))) (pssd_cons (psd_setCs (ps_setC (i := 6) sc_Z16.nd rfl (Or.inl rfl) (blk_of (N := ["places", "row", "step"]) (src := [none, some 2, some 5]) (defScope s_Z16) N_Z16 rfl rfl (by decide +kernel)) rfl (pid_seq (pd_call (fun t ha => qcl H_Z12 hr ha) rfl (pas_cons (pd_lenB rfl (z_len Z) (pb_var 2 (pv 2))) pas_nil) qal1)) (fun C fp s0 H0 => (pgd_name (i := 0) (pg_name nd_law_1 rfl (Or.inl rfl)))) (fun C fp s0 H0 => (ptsd_one (pc_tru (pd_call (fun t ha => qcl H_Z9 hr ha) rfl (pas_cons (pd_var 1 (pv 1)) (pas_cons (pd_var 2 (pv 2)) (pas_cons (pd_var 0 (pv 0)) pas_nil))) qal3)))) (fun C fp s0 H0 => (pd_var 0 (pv 0))))) (pssd_cons (psd_set (i := 7) sc_Z16.nd rfl (Or.inr rfl) (pd_maxL rfl rfl (z_max Z) (pf_pb (pf_comp (blk_of (N := ["places"]) (src := [none]) (defScope s_Z16) N_Z16 rfl rfl (by decide +kernel)) rfl (pid_seq (pd_var 6 (pv 6))) (fun C fp s0 H0 => (pgd_name (i := 0) (pg_name nd_law_2 rfl (Or.inl rfl)))) (fun C fp s0 H0 => ptsd_nil) (fun C fp s0 H0 => (pd_lenB rfl (z_len Z) (pb_var 0 (pv 0)))))))) (pssd_cons (psd_set (i := 8) sc_Z16.nd rfl (Or.inl rfl) (pd_minP rfl hr.units rfl (z_min Z) (pf_pb (pf_comp (blk_of (N := ["places", "most"]) (src := [none, some 7]) (defScope s_Z16) N_Z16 rfl rfl (by decide +kernel)) rfl (pid_seq (pd_var 6 (pv 6))) (fun C fp s0 H0 => (pgd_name (i := 0) (pg_name nd_law_3 rfl (Or.inl rfl)))) (fun C fp s0 H0 => (ptsd_one (pc_cmp op_eq opd_eqS (pd_lenB rfl (z_len Z) (pb_var 0 (pv 0))) (pd_var 1 (pv 1)) (nomark _)))) (fun C fp s0 H0 => (pd_var 0 (pv 0))))))) (pssd_cons (psd_if (pc_w (pcw_or (pc_not (pc_tru (pd_call (fun t ha => qcl H_Z2 hr ha) rfl (pas_cons (pd_call (fun t ha => qcl H_Z13 hr ha) rfl (pas_cons (pd_var 2 (pv 2)) (pas_cons (pd_var 5 (pv 5)) pas_nil)) qal2) (pas_cons (pd_var 8 (pv 8)) pas_nil)) qal2))) (pw1_or (pc_cmp op_ne opd_neS (pd_call (fun t ha => qcl H_Z10 hr ha) rfl (pas_cons (pd_var 2 (pv 2)) (pas_cons (pd_var 5 (pv 5)) pas_nil)) qal2) (pd_var 7 (pv 7)) (nomark _))))) (pssd_one (psd_ret pd_bl)) pssd_nil) (pssd_one (psd_if (pc_not (pc_tru (pd_call (fun t ha => qcl H_Z7 hr ha) rfl (pas_cons (pd_var 2 (pv 2)) (pas_cons (pd_var 5 (pv 5)) (pas_cons (pd_var 8 (pv 8)) pas_nil))) qal3))) (pssd_one (psd_ret pd_bl)) pssd_nil)))))))))))) (pssd_one (psd_ret pd_bl)))
theorem all_mk {l : W.OpenLaw} {h : Heap} {fa : Addr} (X : K.In h) (G : h.Ns mainGlobals mg) (hfa : mg "law" = some (.ref fa)) (d_Z1 : QDn K "refuse_step" s_Z1) (d_Z5 : QDn K "are_places" s_Z5) (d_Z8 : QDn K "turns_of" s_Z8) (d_Z4 : QDn K "go_by_turns" s_Z4) (d_Z7 : QDn K "are_wavy" s_Z7) (d_Z15 : QDn K "tails" s_Z15) (d_Z0 : QDn K "longer_first" s_Z0) (d_Z13 : QDn K "longest" s_Z13) (d_Z10 : QDn K "how_long" s_Z10) (d_Z11 : QDn K "_law_stir" s_Z11) (d_Z6 : QDn K "_law_cells" s_Z6) (d_Z14 : QDn K "_law_row" s_Z14) (d_law_same : QDn K "_law_same" s_law_same) (d_Z9 : QDn K "_law_wavy" s_Z9) (d_Z12 : QDn K "_law_all" s_Z12) (d_Z16 : QDn K "law" s_Z16) (y_abs : W.nsIn K mainGlobals "abs" = some none) (y_bool : W.nsIn K mainGlobals "bool" = some none) (y_int : W.nsIn K mainGlobals "int" = some none) (y_isinstance : W.nsIn K mainGlobals "isinstance" = some none) (y_len : W.nsIn K mainGlobals "len" = some none) (y_list : W.nsIn K mainGlobals "list" = some none) (y_max : W.nsIn K mainGlobals "max" = some none) (y_min : W.nsIn K mainGlobals "min" = some none) (y_range : W.nsIn K mainGlobals "range" = some none) (y_reversed : W.nsIn K mainGlobals "reversed" = some none) (y_set : W.nsIn K mainGlobals "set" = some none) (y_sorted : W.nsIn K mainGlobals "sorted" = some none) (y_str : W.nsIn K mainGlobals "str" = some none) (y_tuple : W.nsIn K mainGlobals "tuple" = some none) (y_zip : W.nsIn K mainGlobals "zip" = some none) :
  ∃ fd : FuncData, (∀ (s : Shared) (v : Value), BindsTo s fd ⟨[v], []⟩ [("script", v)]) /\ ∀ base : Heap, K.In base -> base.Ns mainGlobals mg -> FnOk l.prog w K mg base CX0 5 fa fd ["script"] (spR K 1 m_Z16) := by
 obtain ⟨x, e, oc, o1, kV, dc, pm, o2, cd, ct, sl, l', c, k⟩ := d_Z16
 have e := hfa.symm.trans (W.mg_of X G e)
 cases e
 have Z : Zs mg := ⟨W.mg_none_of X G y_abs, W.mg_none_of X G y_bool, W.mg_none_of X G y_int, W.mg_none_of X G y_isinstance, W.mg_none_of X G y_len, W.mg_none_of X G y_list, W.mg_none_of X G y_max, W.mg_none_of X G y_min, W.mg_none_of X G y_range, W.mg_none_of X G y_reversed, W.mg_none_of X G y_set, W.mg_none_of X G y_sorted, W.mg_none_of X G y_str, W.mg_none_of X G y_tuple, W.mg_none_of X G y_zip, True.intro⟩
 refine ⟨W.fnOf "law" "law" (defArgs s_Z16) (defBody s_Z16) (defScope s_Z16) .none kV dc pm o2 cd ct, fun s v => .of_eq rfl, fun base _ _ => ?_⟩
 have H_Z1 := ok_Z1 (P := l.prog) (w := w) (mg := mg) (base := base) (d_Z1.df X G (qbd1 fun _ _ _ _ _ _ _ => rfl))
 have H_Z5 := ok_Z5 (P := l.prog) (w := w) (mg := mg) (base := base) (d_Z5.df X G (qbd2 fun _ _ _ _ _ _ _ _ => rfl)) Z
 have H_Z8 := ok_Z8 (P := l.prog) (w := w) (mg := mg) (base := base) (d_Z8.df X G (qbd1 fun _ _ _ _ _ _ _ => rfl)) Z
 have H_Z4 := ok_Z4 (P := l.prog) (w := w) (mg := mg) (base := base) (d_Z4.df X G (qbd2 fun _ _ _ _ _ _ _ _ => rfl)) H_Z8 Z
 have H_Z7 := ok_Z7 (P := l.prog) (w := w) (mg := mg) (base := base) (d_Z7.df X G (qbd3 fun _ _ _ _ _ _ _ _ _ => rfl)) H_Z5 H_Z4 H_Z1
 have H_Z15 := ok_Z15 (P := l.prog) (w := w) (mg := mg) (base := base) (d_Z15.df X G (qbd2 fun _ _ _ _ _ _ _ _ => rfl)) Z
 have H_Z0 := ok_Z0 (P := l.prog) (w := w) (mg := mg) (base := base) (d_Z0.df X G (qbd1 fun _ _ _ _ _ _ _ => rfl)) Z
 have H_Z13 := ok_Z13 (P := l.prog) (w := w) (mg := mg) (base := base) (d_Z13.df X G (qbd2 fun _ _ _ _ _ _ _ _ => rfl)) H_Z0 H_Z1 H_Z15 Z
 have H_Z10 := ok_Z10 (P := l.prog) (w := w) (mg := mg) (base := base) (d_Z10.df X G (qbd2 fun _ _ _ _ _ _ _ _ => rfl)) H_Z13 Z
 have H_Z11 := ok_Z11 (P := l.prog) (w := w) (mg := mg) (base := base) (d_Z11.df X G (qbd2 fun _ _ _ _ _ _ _ _ => rfl))
 have H_Z6 := ok_Z6 (P := l.prog) (w := w) (mg := mg) (base := base) (d_Z6.df X G (qbd2 fun _ _ _ _ _ _ _ _ => rfl)) Z
 have H_Z14 := ok_Z14 (P := l.prog) (w := w) (mg := mg) (base := base) (d_Z14.df X G (qbd2 fun _ _ _ _ _ _ _ _ => rfl)) H_Z11 Z
 have H_Z3 := ok_Z3 (P := l.prog) (w := w) (mg := mg) (base := base) (d_law_same.df X G (qbd2 fun _ _ _ _ _ _ _ _ => rfl)) Z
 have H_Z2 := ok_Z2 (P := l.prog) (w := w) (mg := mg) (base := base) (d_law_same.df X G (qbd2 fun _ _ _ _ _ _ _ _ => rfl)) H_Z3 Z
 have H_Z9 := ok_Z9 (P := l.prog) (w := w) (mg := mg) (base := base) (d_Z9.df X G (qbd3 fun _ _ _ _ _ _ _ _ _ => rfl)) Z
 have H_Z12 := ok_Z12 (P := l.prog) (w := w) (mg := mg) (base := base) (d_Z12.df X G (qbd1 fun _ _ _ _ _ _ _ => rfl)) Z
 exact ok_Z16 (fun_mk l' c k) H_Z12 H_Z6 H_Z14 H_Z2 H_Z11 H_Z9 H_Z7 H_Z10 H_Z13 Z
theorem walk {l : W.OpenLaw} {q : Program} {loose : List Str} {XP : (Str -> Option Value) -> Heap -> Prop} {YP : World -> Heap -> Prop} {d : DefRec} {K : Params -> W.Frag} (hn : l.most = some 63) (hdf : d.params.defaults = [])
  (law : ∀ ns : List Int, ns.length <= 63 -> m_Z16 [.lst (ns.map .int)] = some (.sh (.bl true)))
  (hY : ∀ (w : World) (h : Heap), YP w h -> (K w.params).In h)
  (F : ∀ (w : World) (mg : Str -> Option Value) (fa : Addr) (h : Heap), (K w.params).In h -> h.Ns mainGlobals mg -> mg d.name = some (.ref fa) ->
   ∃ fd : FuncData, (∀ (s : Shared) (u : Value), BindsTo s fd ⟨[u], []⟩ [("script", u)]) /\ ∀ base : Heap, (K w.params).In base -> base.Ns mainGlobals mg -> FnOk l.prog w (K w.params) mg base CX0 5 fa fd ["script"] (spR (K w.params) 1 m_Z16)) :
  W.WalkO q loose XP YP l.row.toRowW d [] (fun f vs => PySem.call f vs) :=
 L2.walk_of (n := 63) (k := 5) (x := "script") (CX := fun _ => CX0) (sp := fun w => spR (K w.params) 1 m_Z16) hn (by decide) hdf ⟨rfl, by decide, by decide⟩ hY F (fun w H a ns hl _ hS => sp_Z16 law H a ns hl hS _) fun _ _ _ _ _ z => z
end
end Lw
open PySem PySem.W PyProof.Rows L2
set_option maxRecDepth 100000 in
set_option maxHeartbeats 0 in
theorem PySem.Challenge.cw_wavyrow_k08_longest_of_short_rows_holds : PySem.Challenge.rw_wavyrow_k08_longest_of_short_rows.Holds := by
 w_on; o_law; k_head; (case hw => w_witness2)
 k_fill
 refine Lw.walk (l := PySem.Challenge.rw_wavyrow_k08_longest_of_short_rows) rfl rfl Lw.law_true (fun w h Y => PySem.W.kIn_of Y) ?F
 case F =>
  intro w mg fa h KX G hmg
  refine' Lw.all_mk KX G hmg  ?d_Z1 ?d_Z5 ?d_Z8 ?d_Z4 ?d_Z7 ?d_Z15 ?d_Z0 ?d_Z13 ?d_Z10 ?d_Z11 ?d_Z6 ?d_Z14 ?d_law_same ?d_Z9 ?d_Z12 ?d_Z16    ?y_abs ?y_bool ?y_int ?y_isinstance ?y_len ?y_list ?y_max ?y_min ?y_range ?y_reversed ?y_set ?y_sorted ?y_str ?y_tuple ?y_zip
  all_goals first | (refine' QDn.of ?e ?l ?c ?k; (case e => k_is); (case l => k_is); (case c => k_is); (case k => k_is)) | (refine' QMn.of ?e ?i ?l ?c ?k; (case e => k_is); (case i => k_is); (case l => k_is); (case c => k_is); (case k => k_is)) | k_is | skip
