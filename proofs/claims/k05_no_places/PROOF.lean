import PyProof.Rows.All
import Wide.All
import OpenK.AllK
import Wide.FinOn
import Lean
import PyProof.EqAt
import PyProof.EqKinds
import PyProof.TupleCall
import PyProof.NeKinds
import KE.IntBitsLaws
import PyProof.FitsBits
import PySem.Challenge.RW_wavyrow_k05_no_places
theorem PySem.W.Fast.te3579688494536260334 : True := True.intro
noncomputable def PySem.W.Fast.tw18357491518145433484 := PySem.Challenge.pw_wavyrow_k05_no_places
theorem PySem.W.Fast.te18357491518145433484 : PySem.Challenge.pw_wavyrow_k05_no_places = PySem.W.Fast.tw18357491518145433484 := rfl
def PySem.W.Fast.tw16300309076534539840 : Nat := 0
def PySem.W.Fast.tw2750586719883462592 : Nat := 0
def PySem.W.Fast.tw6834547427955837924 : Nat := 0
def PySem.W.Fast.tw14965532262061157766 : Nat := 0
def PySem.W.Fast.tw12352518159509105094 : Nat := 0
def PySem.W.Fast.tw11853406063131101034 : Nat := 0
def PySem.W.Fast.tw10087288045035915372 : Nat := 0
def PySem.W.Fast.tw13537094390106025327 : Nat := 0
def PySem.W.Fast.tw5267916958670646800 : Nat := 0
def PySem.W.Fast.tw8425177398744675282 : Nat := 0
def PySem.W.Fast.tw4269329652871849363 : Nat := 0
def PySem.W.Fast.tw12922450422797940885 : Nat := 0
def PySem.W.Fast.tw12121482666124667929 : Nat := 0
set_option Elab.async false
set_option linter.all false
set_option maxRecDepth 100000
namespace L2
open List
open PySem PySem.Spec PyProof.Rows
section
abbrev Key := Sum Int Str
def keyIs : Key -> Value -> Bool
 | .inl k, v => Value.isInt k v
 | .inr x, v => Value.isStrOf x v
def keyH (w : World) : Key -> Int
 | .inl k => hashInt k
 | .inr x => hashStr w x
theorem keyIs_shape : ∀ {k : Key} {v : Value}, keyIs k v = true -> (∃ i t, k = Sum.inl i /\ v = Value.int i t) \/ (∃ x t, k = Sum.inr x /\ v = Value.str x t)
 | .inl i, v, h => by
  obtain ⟨t, e⟩ := Value.isInt_shape (k := i) (v := v) h
  exact .inl ⟨i, t, rfl, e⟩
 | .inr x, v, h => by
  obtain ⟨t, e⟩ := Value.isStrOf_shape (x := x) (v := v) h
  exact .inr ⟨x, t, rfl, e⟩
theorem keyIs_str (x : Str) (t : Tok) : keyIs (.inr x) (.str x t) = true := by simp [keyIs, Value.isStrOf]
theorem key_ll (a b : Int) : decide ((Sum.inl a : Key) = Sum.inl b) = (a == b) := by
 by_cases e : a = b
 ·subst e; simp
 ·have h : ¬ (Sum.inl a : Key) = Sum.inl b := fun q => e (Sum.inl.inj q)
  rw [decide_eq_false h]
  exact (beq_eq_false_iff_ne.mpr e).symm
theorem key_rr (a b : Str) : decide ((Sum.inr a : Key) = Sum.inr b) = decide (a = b) := by
 by_cases e : a = b
 ·subst e; simp
 ·have h : ¬ (Sum.inr a : Key) = Sum.inr b := fun q => e (Sum.inr.inj q)
  rw [decide_eq_false h, decide_eq_false e]
theorem key_lr (a : Int) (b : Str) : decide ((Sum.inl a : Key) = Sum.inr b) = false := decide_eq_false (fun q => nomatch q)
theorem key_rl (a : Str) (b : Int) : decide ((Sum.inr a : Key) = Sum.inl b) = false := decide_eq_false (fun q => nomatch q)
def mixKind (prog : Program) (w : World) : PySem.KeyKind prog w Key where
 is := keyIs
 hash := keyH w
 inj := fun v a b ha hb => by
  rcases keyIs_shape ha with ⟨i, t, rfl, rfl⟩ | ⟨x, t, rfl, rfl⟩
  ·rcases keyIs_shape hb with ⟨j, u, rfl, e⟩ | ⟨y, u, rfl, e⟩
   ·injection e with e1 _; rw [e1]
   ·exact nomatch e
  ·rcases keyIs_shape hb with ⟨j, u, rfl, e⟩ | ⟨y, u, rfl, e⟩
   ·exact nomatch e
   ·injection e with e1 _; rw [e1]
 byValue := fun k v h => by
  rcases keyIs_shape h with ⟨i, t, rfl, rfl⟩ | ⟨x, t, rfl, rfl⟩ <;> rfl
 pyHash := fun hv h => by
  rcases keyIs_shape hv with ⟨i, t, rfl, rfl⟩ | ⟨x, t, rfl, rfl⟩
  ·exact wpAny_pyHash_int h
  ·exact wpAny_pyHash_str h
 eqBool := fun hu hv h => by
  rcases keyIs_shape hu with ⟨i, t, rfl, rfl⟩ | ⟨x, t, rfl, rfl⟩
  ·rcases keyIs_shape hv with ⟨j, u, rfl, rfl⟩ | ⟨y, u, rfl, rfl⟩
   ·rw [key_ll] at h; exact wpAny_eqBool_int h
   ·rw [key_lr] at h; exact SeqAt.EqAt.int_str i t y u _ _ _ _ h
  ·rcases keyIs_shape hv with ⟨j, u, rfl, rfl⟩ | ⟨y, u, rfl, rfl⟩
   ·rw [key_rl] at h; exact SeqAt.EqAt.str_int x t j u _ _ _ _ h
   ·rw [key_rr] at h; exact wpAny_eqBool_str h
 «strs» := fun k x t v h => by
  rcases keyIs_shape h with ⟨i, u, rfl, e⟩ | ⟨y, u, rfl, e⟩
  ·exact nomatch e
  ·injection e with e1 _
   subst e1
   cases v <;> rfl
end
section
inductive V where
 | non | bl (b : Bool) | int (i : Int) | str (x : Str) | byt (b : Array UInt8) | flt (b : UInt64) | ref (a : Addr) | ty (n : String)
 deriving DecidableEq
def RelV : V -> Value -> Prop
 | .non, u => u = Value.none
 | .bl b, u => u = Value.bool b
 | .int i, u => ∃ t, u = Value.int i t
 | .str x, u => ∃ t, u = Value.str x t
 | .byt b, u => ∃ t, u = Value.bytes b t
 | .flt b, u => ∃ t, u = Value.float b t
 | .ref a, u => u = Value.ref a
 | .ty n, u => u = Value.type n
abbrev Vals : List V -> List Value -> Prop := Paired RelV
theorem Vals.length {xs : List V} {us : List Value} (r : Vals xs us) : xs.length = us.length := Paired.length r
theorem Vals.get : ∀ {xs : List V} {us : List Value} {i : Nat} {x : V}, Vals xs us -> xs[i]? = some x -> ∃ u, us[i]? = some u /\ RelV x u
 | _, _, _, _, .nil, e => by simp at e
 | _, _, 0, _, .cons r _, e => by simp at e; subst e; exact ⟨_, rfl, r⟩
 | _, _, i + 1, x, .cons _ t, e => by
  obtain ⟨u, h1, h2⟩ := Vals.get (i := i) (x := x) t (by simpa using e)
  exact ⟨u, by simpa using h1, h2⟩
theorem Vals.set {x : V} {u : Value} (r : RelV x u) : ∀ {xs : List V} {us : List Value} (i : Nat), Vals xs us -> Vals (xs.set i x) (us.set i u)
 | _, _, _, .nil => .nil
 | _, _, 0, .cons _ t => .cons r t
 | _, _, i + 1, .cons q t => .cons q (Vals.set r i t)
theorem Vals.append : ∀ {xs ys : List V} {us ws : List Value}, Vals xs us -> Vals ys ws -> Vals (xs ++ ys) (us ++ ws)
 | _, _, _, _, .nil, s => s
 | _, _, _, _, .cons r t, s => .cons r (Vals.append t s)
theorem Vals.take : ∀ {xs : List V} {us : List Value} (n : Nat), Vals xs us -> Vals (xs.take n) (us.take n)
 | _, _, 0, _ => .nil
 | _, _, _ + 1, .nil => .nil
 | _, _, n + 1, .cons r t => .cons r (Vals.take n t)
theorem Vals.drop : ∀ {xs : List V} {us : List Value} (n : Nat), Vals xs us -> Vals (xs.drop n) (us.drop n)
 | _, _, 0, r => r
 | _, _, _ + 1, .nil => .nil
 | _, _, n + 1, .cons _ t => Vals.drop n t
def RelO : Option V -> Option Value -> Prop
 | some v, some u => RelV v u
 | none, none => True
 | _, _ => False
def KV {κ : Type} : List (κ × V) -> List (κ × Value) -> Prop := Paired fun (p : κ × V) (q : κ × Value) => p.1 = q.1 /\ RelV p.2 q.2
def kV : Key -> V
 | .inl i => .int i
 | .inr x => .str x
inductive HO where
 | lst (xs : List V)
 | tup (xs : List V)
 | dK (kvs : List (Key × V)) | dT (kvs : List (List Key × V))
 | set (S : Int -> Bool) (n : Nat)
 | ins (C dx : Addr) (fs : List (Str × V))
 | own (x : Addr)
 | xd (fs : List (Str × V))
 | met (f x : Addr)
 | rng (lo hi : Int)
 | frz (o : Obj) (u : HO)
 | tbl (ps : Array Value)
 | ext (φ : Heap -> Prop)
abbrev Hp := Addr -> Option HO
def upd (H : Hp) (a : Addr) (o : HO) : Hp := fun b => if b = a then some o else H b
theorem upd_same {H : Hp} {a : Addr} {o : HO} : upd H a o a = some o := by unfold upd; rw [if_pos rfl]
theorem upd_ne {H : Hp} {a b : Addr} {o : HO} (h : b ≠ a) : upd H a o b = H b := by unfold upd; rw [if_neg h]
theorem ne_of_none {H : Hp} {a b : Addr} {o : HO} (h : H a = some o) (h' : H b = none) : a ≠ b := by
 intro e; subst e; rw [h] at h'; cases h'
section
variable (P : Program) (w : World)
def ObjOk (H : Hp) (h : Heap) (a : Addr) : HO -> Prop
 | .lst xs => xs.length <= sizeLine /\ ∃ (its : List Value) (n : Nat), Vals xs its /\ h.get? a = some { cls := .type "list", data := .seq its.toArray n }
 | .tup xs => xs.length <= sizeLine /\ ∃ its : List Value, Vals xs its /\ IsTup h a its.toArray
 | .dK kvs => kvs.length <= sizeLine /\ (a == sysModules) = false /\ ∃ vs, KV kvs vs /\ h.DictOf (mixKind P w) a vs
 | .dT kvs => kvs.length <= sizeLine /\ (a == sysModules) = false /\ ∃ xs : List (List Key × Addr × Value),
   Paired (fun (p : List Key × V) (q : List Key × Addr × Value) => p.1 = q.1 /\ H q.2.1 = some (.tup (p.1.map kV)) /\ RelV p.2 q.2.2) kvs xs /\
   ∃ o es ep, h.get? a = some o /\ o.ExactDict /\ o.data = .dict es ep /\ es.toList = xs.map (entryOfKey (tupleKind (mixKind P w))) /\ (xs.map (·.1)).Nodup
 | .set S n => h.SetOf (intKind P w) a S n
 | .ins C dx fs => H dx = some (.own a) /\ fs.length <= 1000 /\ dx ≠ a /\ h.get? a = some (W.instObj C dx) /\
   ∃ mA, h.Ns1 dx mA /\ (∀ f, RelO (fs.lookup f) (mA f)) /\ PySem.Within mA (fs.map (·.1))
 | .own _ => ∃ o, h.get? a = some o
 | .xd fs => ∃ mA, h.Ns1 a mA /\ ∀ f, RelO (fs.lookup f) (mA f)
 | .rng lo hi => ∃ t u v, h.get? a = some { cls := .type "range", data := .fields #[.int lo t, .int hi u, .int 1 v] }
 | .frz o u => h.get? a = some o /\ ObjOk H h a u
 | .tbl ps => h.get? a = some { cls := .none, data := .fields ps }
 | .met f x => h.get? a = some (W.methodObj (.ref f) (.ref x))
 | .ext φ => φ h /\ (∃ o, h.get? a = some o) /\ ∀ h1 h2 : Heap, φ h1 -> (∀ o, h1.get? a = some o -> h2.get? a = some o) -> φ h2
def HOk (H : Hp) (h : Heap) : Prop := ∀ a o, H a = some o -> ObjOk P w H h a o
end
section
variable {P : Program} {w : World} {H H' : Hp} {h h' : Heap} {a : Addr} {o : HO}
theorem ObjOk.lt (x : ObjOk P w H h a o) : a < h.objs.size := by
 cases o with
 | lst xs => obtain ⟨_, _, _, _, e⟩ := x; exact Heap.lt_size e
 | tup xs => obtain ⟨_, _, _, p⟩ := x; exact p.lt
 | dK kvs => obtain ⟨_, _, _, _, o, _, _, e, _⟩ := x; exact Heap.lt_size e
 | dT kvs => obtain ⟨_, _, _, _, o, _, _, e, _⟩ := x; exact Heap.lt_size e
 | set S n => obtain ⟨o, _, _, _, e, _⟩ := x; exact Heap.lt_size e
 | ins C dx fs => obtain ⟨_, _, _, e, _⟩ := x; exact Heap.lt_size e
 | own y => obtain ⟨_, e⟩ := x; exact Heap.lt_size e
 | xd fs => obtain ⟨_, ⟨_, _, _, e, _⟩, _⟩ := x; exact Heap.lt_size e
 | rng lo hi => obtain ⟨_, _, _, e⟩ := x; exact Heap.lt_size e
 | frz ob u => obtain ⟨e, _⟩ := x; exact Heap.lt_size e
 | tbl ps => exact Heap.lt_size (show h.get? a = some _ from x)
 | met f y => exact Heap.lt_size (show h.get? a = some _ from x)
 | ext φ => obtain ⟨_, ⟨_, e⟩, _⟩ := x; exact Heap.lt_size e
theorem Paired.mapP {α β : Type} {F G : α -> β -> Prop} : ∀ {l₁ : List α} {l₂ : List β}, Paired F l₁ l₂ -> (∀ a b, F a b -> G a b) -> Paired G l₁ l₂
 | _, _, .nil, _ => .nil
 | _, _, .cons r t, f => .cons (f _ _ r) (Paired.mapP t f)
theorem ObjOk.stay (x : ObjOk P w H h a o) (k : ∀ b u, (b = a \/ H b = some (.own a)) -> h.get? b = some u -> h'.get? b = some u)
  (ho : ∀ b, H b = some (.own a) -> H' b = some (.own a)) (ht : ∀ b xs, H b = some (.tup xs) -> H' b = some (.tup xs)) : ObjOk P w H' h' a o := by
 induction o with
 | lst xs => obtain ⟨z, its, n, r, e⟩ := x; exact ⟨z, its, n, r, k _ _ (.inl rfl) e⟩
 | tup xs => obtain ⟨z, its, r, ob, e, c⟩ := x; exact ⟨z, its, r, ob, k _ _ (.inl rfl) e, c⟩
 | dK kvs => obtain ⟨z, y, vs, r, ob, es, ep, e, c⟩ := x; exact ⟨z, y, vs, r, ob, es, ep, k _ _ (.inl rfl) e, c⟩
 | dT kvs =>
  obtain ⟨z, y, xs, r, ob, es, ep, e, c⟩ := x
  exact ⟨z, y, xs, Paired.mapP r fun p q z => ⟨z.1, ht _ _ z.2.1, z.2.2⟩, ob, es, ep, k _ _ (.inl rfl) e, c⟩
 | set S n => obtain ⟨ob, es, ep, t, e, c⟩ := x; exact ⟨ob, es, ep, t, k _ _ (.inl rfl) e, c⟩
 | ins C dx fs =>
  obtain ⟨d, z, ne, e, mA, ⟨od, es, ep, e2, c⟩, r⟩ := x
  exact ⟨ho _ d, z, ne, k _ _ (.inl rfl) e, mA, ⟨od, es, ep, k _ _ (.inr d) e2, c⟩, r⟩
 | own y => obtain ⟨ob, e⟩ := x; exact ⟨ob, k _ _ (.inl rfl) e⟩
 | xd fs => obtain ⟨mA, ⟨od, es, ep, e, c⟩, r⟩ := x; exact ⟨mA, ⟨od, es, ep, k _ _ (.inl rfl) e, c⟩, r⟩
 | rng lo hi => obtain ⟨t, u, v, e⟩ := x; exact ⟨t, u, v, k _ _ (.inl rfl) e⟩
 | frz ob u ih => obtain ⟨e, q⟩ := x; exact ⟨k _ _ (.inl rfl) e, ih q⟩
 | tbl ps =>
  have e : h.get? a = some { cls := .none, data := .fields ps } := x
  show h'.get? a = some { cls := .none, data := .fields ps }
  exact k a _ (.inl rfl) e
 | met f y =>
  have e : h.get? a = some (W.methodObj (.ref f) (.ref y)) := x
  show h'.get? a = some (W.methodObj (.ref f) (.ref y))
  exact k a _ (.inl rfl) e
 | ext φ => obtain ⟨p, ⟨o, e⟩, st⟩ := x; exact ⟨st _ _ p fun o q => k _ _ (.inl rfl) q, ⟨o, k _ _ (.inl rfl) e⟩, st⟩
theorem HOk.lt (x : HOk P w H h) (e : H a = some o) : a < h.objs.size := (x a o e).lt
theorem HOk.fresh (x : HOk P w H h) (e : h.objs.size <= a) : H a = none := by
 cases q : H a with
 | none => rfl
 | some u => exact absurd (Nat.lt_of_lt_of_le (x.lt q) e) (Nat.lt_irrefl _)
theorem HOk.kept (x : HOk P w H h) (k : ∀ b u, h.get? b = some u -> h'.get? b = some u) : HOk P w H h' := fun a o e =>
 (x a o e).stay (fun b u _ q => k b u q) (fun _ q => q) fun _ _ q => q
theorem HOk.laid (x : HOk P w H h) (k : ∀ b u, h.get? b = some u -> h'.get? b = some u) (hp : h.objs.size <= a) (new : ObjOk P w (upd H a o) h' a o) : HOk P w (upd H a o) h' := fun b u e => by
 have hn := x.fresh hp
 by_cases hb : b = a
 ·subst hb; rw [upd_same] at e; cases e; exact new
 ·rw [upd_ne hb] at e
  exact (x b u e).stay (fun c v _ q => k c v q) (fun c q => by rw [upd_ne (ne_of_none q hn)]; exact q) fun c xs q => by rw [upd_ne (ne_of_none q hn)]; exact q
end
def Rd (H : Hp) (a : Addr) (u : HO) : Prop := H a = some u \/ ∃ o, H a = some (.frz o u)
theorem Rd.of {H : Hp} {a : Addr} {u : HO} (h : H a = some u) : Rd H a u := .inl h
theorem Rd.ok {P : Program} {w : World} {H : Hp} {h : Heap} {a : Addr} {u : HO} (r : Rd H a u) (x : HOk P w H h) : ObjOk P w H h a u := by
 rcases r with r | ⟨o, r⟩
 ·exact x a u r
 ·obtain ⟨_, q⟩ := x a _ r
  exact q
def Mut : Option HO -> Prop
 | some (.lst _) => True
 | some (.dK _) => True
 | some (.dT _) => True
 | some (.set _ _) => True
 | some (.ins _ _ _) => True
 | some (.ext _) => True
 | _ => False
section
variable {P : Program} {w : World} {H : Hp} {h h' : Heap} {x e : Addr} {o' : HO}
theorem HOk.write (ok : HOk P w H h) (mu : Mut (H x)) (he : e = x \/ H e = some (.own x)) (k : ∀ b u, b ≠ e -> h.get? b = some u -> h'.get? b = some u) (heo : ∃ u, h'.get? e = some u)
  (new : ObjOk P w (upd H x o') h' x o') : HOk P w (upd H x o') h' := fun b u q => by
 have nown : ∀ c y, H c = some (.own y) -> c ≠ x := fun c y r z => by subst z; rw [r] at mu; exact mu
 have ntup : ∀ c xs, H c = some (.tup xs) -> c ≠ x := fun c xs r z => by subst z; rw [r] at mu; exact mu
 by_cases hb : b = x
 ·subst hb; rw [upd_same] at q; cases q; exact new
 ·rw [upd_ne hb] at q
  by_cases hbe : b = e
  ·have q' : H b = some (.own x) := by
    rcases he with z | z
    ·exact absurd (hbe.trans z) hb
    ·rw [hbe]; exact z
   rw [q] at q'; cases q'
   obtain ⟨v, hv⟩ := heo
   exact ⟨v, by rw [hbe]; exact hv⟩
  ·refine (ok b u q).stay (fun c v hc r => k c v ?_ r) (fun c r => by rw [upd_ne (nown c b r)]; exact r) fun c xs r => by rw [upd_ne (ntup c xs r)]; exact r
   rcases hc with rfl | hc
   ·exact hbe
   ·rintro rfl
    rcases he with z | z
    ·exact nown c b hc z
    ·rw [hc] at z; cases z; exact hb rfl
end
structure Un (fs ex : List Addr) (H H' : Hp) (h h' : Heap) : Prop where
 keep : ∀ b o, h.get? b = some o -> H b = none -> b ∉ fs -> b ∉ ex -> h'.get? b = some o
 slot : ∀ b o, h.get? b = some o -> H b = none -> b ∈ fs -> b ∉ ex -> ∃ sl, h'.get? b = some { o with slots := sl }
 free : ∀ b o, h.get? b = some o -> H b = none -> b ∉ ex -> H' b = none
 there : ∀ b o, h.get? b = some o -> b ∉ ex -> ∃ o', h'.get? b = some o'
 tups : ∀ b xs, H b = some (.tup xs) -> H' b = some (.tup xs)
 frzs : ∀ b o u, H b = some (.frz o u) -> H' b = some (.frz o u)
 tbls : ∀ b ps, H b = some (.tbl ps) -> ∃ more, H' b = some (.tbl (ps ++ more))
section
variable {fs fs' ex ex' : List Addr} {H H1 H2 : Hp} {h h1 h2 h' : Heap} {a x e : Addr} {o : HO}
theorem Un.any (u : Un fs ex H H1 h h1) {b : Addr} {ob : Obj} (q : h.get? b = some ob) (n : H b = none) (hx : b ∉ ex) : ∃ sl, h1.get? b = some { ob with slots := sl } := by
 by_cases hb : b ∈ fs
 ·exact u.slot b ob q n hb hx
 ·exact ⟨ob.slots, u.keep b ob q n hb hx⟩
theorem Un.trans (a : Un fs ex H H1 h h1) (b : Un fs ex H1 H2 h1 h2) : Un fs ex H H2 h h2 where
 keep := fun c ob q n hc hx => b.keep c ob (a.keep c ob q n hc hx) (a.free c ob q n hx) hc hx
 slot := fun c ob q n hc hx => by
  obtain ⟨sl, e1⟩ := a.slot c ob q n hc hx
  obtain ⟨sl', e2⟩ := b.slot c _ e1 (a.free c ob q n hx) hc hx
  exact ⟨sl', e2⟩
 free := fun c ob q n hx => by
  obtain ⟨o', e1⟩ := a.there c ob q hx
  exact b.free c o' e1 (a.free c ob q n hx) hx
 there := fun c ob q hx => by
  obtain ⟨o', e1⟩ := a.there c ob q hx
  exact b.there c o' e1 hx
 tups := fun c xs q => b.tups c xs (a.tups c xs q)
 frzs := fun c ob xs q => b.frzs c ob xs (a.frzs c ob xs q)
 tbls := fun c ps q => by
  obtain ⟨m1, e1⟩ := a.tbls c ps q
  obtain ⟨m2, e2⟩ := b.tbls c _ e1
  exact ⟨m1 ++ m2, by rw [e2, Array.append_assoc]⟩
theorem Un.kept (k : ∀ b u, h.get? b = some u -> h'.get? b = some u) : Un fs ex H H h h' :=
 ⟨fun b ob q _ _ _ => k b ob q, fun b ob q _ _ _ => ⟨ob.slots, k b ob q⟩, fun _ _ _ n _ => n, fun b ob q _ => ⟨ob, k b ob q⟩, fun _ _ q => q, fun _ _ _ q => q, fun _ ps q => ⟨#[], by rw [q]; simp⟩⟩
theorem Un.refl : Un fs ex H H h h := Un.kept fun _ _ q => q
theorem Un.laid (k : ∀ b u, h.get? b = some u -> h'.get? b = some u) (hp : h.objs.size <= a) (hn : H a = none) : Un fs ex H (upd H a o) h h' where
 keep := fun b u q _ _ _ => k b u q
 slot := fun b u q _ _ _ => ⟨u.slots, k b u q⟩
 free := fun b u q n _ => by rw [upd_ne (Nat.ne_of_lt (Nat.lt_of_lt_of_le (Heap.lt_size q) hp))]; exact n
 there := fun b u q _ => ⟨u, k b u q⟩
 tups := fun b xs q => by rw [upd_ne (ne_of_none q hn)]; exact q
 frzs := fun b u xs q => by rw [upd_ne (ne_of_none q hn)]; exact q
 tbls := fun b ps q => ⟨#[], by rw [upd_ne (ne_of_none q hn), q]; simp⟩
theorem Un.write (mu : Mut (H x)) (he : e = x \/ H e = some (.own x)) (k : ∀ b u, b ≠ e -> h.get? b = some u -> h'.get? b = some u) (heo : ∃ u, h'.get? e = some u) : Un fs ex H (upd H x o) h h' := by
 have hx : ∀ b, H b = none -> b ≠ x := fun b n z => by subst z; rw [n] at mu; exact mu
 have hb : ∀ b, H b = none -> b ≠ e := fun b n z => by
  subst z
  rcases he with r | r
  ·exact hx b n r
  ·rw [n] at r; cases r
 have hm : ∀ b u, H b = some u -> ¬ Mut (some u) -> b ≠ x := fun b u q nm z => by subst z; rw [q] at mu; exact nm mu
 refine ⟨fun b u q n _ _ => k b u (hb b n) q, fun b u q n _ _ => ⟨u.slots, k b u (hb b n) q⟩, fun b u q n _ => by rw [upd_ne (hx b n)]; exact n, fun b u q _ => ?_,
  fun b xs q => by rw [upd_ne (hm b _ q fun z => z)]; exact q, fun b u xs q => by rw [upd_ne (hm b _ q fun z => z)]; exact q, fun b ps q => ⟨#[], by rw [upd_ne (hm b _ q fun z => z), q]; simp⟩⟩
 by_cases hbe : b = e
 ·subst hbe; exact heo
 ·exact ⟨u, k b u hbe q⟩
theorem Un.mono (u : Un fs ex H H1 h h1) (hs : ∀ b ∈ fs, b ∈ fs') (hx : ∀ b ∈ ex, b ∈ ex') : Un fs' ex' H H1 h h1 :=
 ⟨fun b ob q n hb he => u.keep b ob q n (fun z => hb (hs b z)) fun z => he (hx b z), fun _ _ q n _ he => u.any q n fun z => he (hx _ z), fun b ob q n he => u.free b ob q n fun z => he (hx b z), fun b ob q he => u.there b ob q fun z => he (hx b z), u.tups, u.frzs, u.tbls⟩
end
def trk (h : Heap) (H : Hp) : List Addr := (List.range h.objs.size).filter fun a => (H a).isSome
def hidT (h : Heap) (H : Hp) : Heap := W.hideAll h (trk h H)
theorem hidT_size (h : Heap) (H : Hp) : (hidT h H).objs.size = h.objs.size := W.hideAll_size _ _
theorem hidT_get {h : Heap} {H : Hp} {b : Addr} {o : Obj} (e : h.get? b = some o) (n : H b = none) : (hidT h H).get? b = some o :=
 W.hideAll_get _ e fun hm => by
  have q : (H b).isSome = true := (List.mem_filter.mp hm).2
  rw [n] at q; simp at q
theorem of_hidT {h : Heap} {H : Hp} {b : Addr} {o : Obj} (e : (hidT h H).get? b = some o) : h.get? b = some o /\ H b = none := by
 have e' : h.get? b = some o := W.of_hideAll (trk h H) e
 refine ⟨e', ?_⟩
 cases q : H b with
 | none => rfl
 | some x =>
  have hm : b ∈ trk h H := List.mem_filter.mpr ⟨List.mem_range.mpr (Heap.lt_size e'), by simp [q]⟩
  have z : (hidT h H).get? b = none := W.hideAll_none (trk h H) hm
  rw [z] at e; cases e
def allNews (g h : Heap) (L : Addr) : List (Addr × Obj) := (List.range h.objs.size).filterMap fun a => if a = L \/ (g.get? a).isSome = true then none else (h.get? a).map fun o => (a, o)
def rest (g h : Heap) (L d : Addr) : List (Addr × Obj) := (allNews g h L).filter fun p => decide (p.1 ≠ d)
end
section
structure Mod (K : W.Frag) (mg : Str -> Option Value) (base : Heap) : Prop where
 kin : K.In base
 glob : base.Ns mainGlobals mg
 blt : ∃ mb, base.Ns builtinsNs mb /\ ∀ x : Str, x ≠ "__name__" -> mb x = bootBuiltins x
 nolimit : base.NoLimit
structure Cx where
 prog : Program
 w : World
 K : W.Frag
 mg : Str -> Option Value
 base : Heap
 A : Around
 N : List Str
 s₀ : Shared
 H₀ : Hp
 env : Env
 outer : List Env
 stack : List Env
 ex : List Addr
 fn : Str -> Bool
 calm : Bool
 pn : List (Addr × Obj)
 xe : Value -> Shared -> Prop
def frs (l : List Env) : List Addr := l.filterMap (·.frame)
abbrev Cx.fs (X : Cx) : List Addr := frs X.outer
def Vis (sc : Scope) (x : Str) : Prop := sc.names.lookup x = some .local \/ sc.names.lookup x = some .cell \/ sc.names.lookup x = some .free
def Loc (sc : Scope) (x : Str) : Prop := sc.names.lookup x = some .local \/ sc.names.lookup x = some .cell
def Look (env : Env) (h : Heap) (m : Str -> Option Value) (x : Str) (u : Value) : Prop :=
 (env.kindOf x = some .local /\ m x = some u) \/ ((env.kindOf x = some .cell \/ env.kindOf x = some .free) /\ ∃ c, env.cells.lookup x = some c /\ h.IsCell c (some u))
structure Cx.Ok (X : Cx) : Prop where
 mod : Mod X.K X.mg X.base
 kind : X.env.scope.kind = .function
 glob : X.env.globals = mainGlobals
 blt : X.env.builtins = builtinsNs
 above : X.s₀.heap.objs.size <= X.env.locals
 inj : ∀ x y c, X.env.cells.lookup x = some c -> X.env.cells.lookup y = some c -> x = y
 has : ∀ x, (X.env.kindOf x = some .cell \/ X.env.kindOf x = some .free) -> ∃ c, X.env.cells.lookup x = some c
 cab : ∀ x c, X.fn x = true -> X.env.cells.lookup x = some c -> X.s₀.heap.objs.size <= c
 hd : X.calm = true -> X.A.handled = none
 frames : X.A.frames = some X.stack
 stk : X.stack = X.outer \/ (X.stack = X.env :: X.outer /\ X.env.frame = some X.env.locals)
 exf : ∀ b ∈ X.ex, b ≠ X.env.locals /\ ∀ x c, X.env.cells.lookup x = some c -> c ≠ b
 bs : ∀ b o, X.base.get? b = some o -> X.s₀.heap.get? b = some o /\ X.H₀ b = none
 bsz : X.base.objs.size <= X.s₀.heap.objs.size
 noex : ∀ b o, X.base.get? b = some o -> b ∉ X.ex
 exfs : ∀ b ∈ X.ex, b ∉ X.fs
 funs : X.s₀.heap.FunFrames X.base X.outer
 frf : ∀ b ∈ X.fs, X.H₀ b = none
structure Inv (X : Cx) (pins : List (Addr × Obj)) (σ : List (Option V)) (H : Hp) (s : Shared) : Prop where
 ok : X.Ok
 os : s.os = X.s₀.os
 bare : AllBare s.gens
 base : Un X.fs X.ex X.H₀ H X.s₀.heap s.heap
 loc : ∃ m, s.heap.Ns X.env.locals m /\ ∀ (i : Nat) (x : Str) (v : V), X.N[i]? = some x -> σ[i]? = some (some v) -> Vis X.env.scope x -> ∃ u, RelV v u /\ Look X.env s.heap m x u
 cell : ∀ x c, X.env.cells.lookup x = some c -> ∃ v, s.heap.IsCell c v
 free : H X.env.locals = none
 freeC : ∀ x c, X.env.cells.lookup x = some c -> H c = none
 pin : ∀ p ∈ X.pn ++ pins, s.heap.get? p.1 = some p.2 /\ H p.1 = none /\ p.1 ≠ X.env.locals /\ p.1 ∉ X.fs /\ ∀ v, p.2.data ≠ .cell v
 hok : HOk X.prog X.w H s.heap
 len : σ.length = X.N.length
section
variable {X : Cx} {pins : List (Addr × Obj)} {σ : List (Option V)} {H H' : Hp} {s : Shared} {h' : Heap}
theorem Cx.Ok.nofr (ok : X.Ok) {b : Addr} {o : Obj} (e : X.base.get? b = some o) : b ∉ X.fs := fun hb => by
 have := (ok.funs.mem hb).1
 rw [e] at this; cases this
theorem Inv.bs (I : Inv X pins σ H s) : ∀ b o, X.base.get? b = some o -> s.heap.get? b = some o /\ H b = none := fun b o e =>
 ⟨I.base.keep b o (I.ok.bs b o e).1 (I.ok.bs b o e).2 (I.ok.nofr e) (I.ok.noex b o e), I.base.free b o (I.ok.bs b o e).1 (I.ok.bs b o e).2 (I.ok.noex b o e)⟩
theorem Inv.bk (I : Inv X pins σ H s) : ∀ b o, X.base.get? b = some o -> s.heap.get? b = some o := fun b o e => (I.bs b o e).1
theorem Inv.mod (I : Inv X pins σ H s) : Mod X.K X.mg X.base := I.ok.mod
theorem Inv.kIn (I : Inv X pins σ H s) : X.K.In s.heap := I.ok.mod.kin.keeps I.bk
theorem Inv.nolimit (I : Inv X pins σ H s) : s.heap.NoLimit := I.ok.mod.nolimit.keeps I.bk
theorem Inv.fr (I : Inv X pins σ H s) : ∃ m, Fr X.base X.env.locals s.heap m :=
 let ⟨m, hn, _⟩ := I.loc
 ⟨m, hn, I.bk, Nat.le_trans I.ok.bsz I.ok.above⟩
theorem Inv.lt (I : Inv X pins σ H s) : X.env.locals < s.heap.objs.size := let ⟨_, hn, _⟩ := I.loc; hn.lt
theorem Inv.sz (I : Inv X pins σ H s) : X.s₀.heap.objs.size <= s.heap.objs.size := Nat.le_trans I.ok.above (Nat.le_of_lt I.lt)
theorem Inv.nofs (I : Inv X pins σ H s) {a : Addr} (h : s.heap.objs.size <= a) : a ∉ X.fs := fun hb => by
 obtain ⟨_, o, ho, _⟩ := I.ok.funs.mem hb
 exact absurd (Nat.lt_of_lt_of_le (Heap.lt_size ho) (Nat.le_trans I.sz h)) (Nat.lt_irrefl _)
theorem Inv.cne (I : Inv X pins σ H s) : ∀ x c, X.env.cells.lookup x = some c -> c ≠ X.env.locals := fun x c e z => by
 obtain ⟨v, o, ho, hd⟩ := I.cell x c e
 obtain ⟨m, ⟨o', es, ep, ho', hd', _⟩, _⟩ := I.loc
 rw [z, ho'] at ho; cases ho; rw [hd'] at hd; cases hd
theorem Inv.funs (I : Inv X pins σ H s) : s.heap.FunFrames X.base X.outer := by
 have all : ∀ (l : List Env), (∀ b ∈ frs l, b ∈ X.fs) -> X.s₀.heap.FunFrames X.base l -> s.heap.FunFrames X.base l := by
  intro l
  induction l with
  | nil => intro _ _; trivial
  | cons env r ih =>
   intro hs hl
   obtain ⟨hk, ⟨L, o, hf, hn, ho, hd⟩, hr⟩ := hl
   have hL : L ∈ X.fs := hs L (by unfold frs; rw [filterMap_cons, hf]; exact mem_cons_self)
   obtain ⟨sl, e⟩ := I.base.slot L o ho (I.ok.frf L hL) hL fun z => I.ok.exfs L z hL
   exact ⟨hk, ⟨L, _, hf, hn, e, hd⟩, ih (fun b hb => hs b (by unfold frs; rw [filterMap_cons, hf]; exact mem_cons_of_mem _ hb)) hr⟩
 exact all X.outer (fun _ hb => hb) I.ok.funs
theorem Inv.stack (I : Inv X pins σ H s) : s.heap.FunFrames X.base X.stack := by
 rcases I.ok.stk with e | ⟨e, hf⟩
 ·rw [e]; exact I.funs
 ·rw [e]
  obtain ⟨m, hn, _⟩ := I.loc
  refine .cons (by rw [I.ok.kind]; decide) hf hn ?_ I.funs
  exact Heap.get?_none_of_le (Nat.le_trans I.ok.bsz I.ok.above)
theorem Inv.stkSub (I : Inv X pins σ H s) : ∀ b ∈ frs X.stack, b ∈ X.env.locals :: X.fs := fun b hb => by
 rcases I.ok.stk with e | ⟨e, hf⟩
 ·rw [e] at hb; exact mem_cons_of_mem _ hb
 ·rw [e] at hb
  unfold frs at hb
  rw [filterMap_cons, hf] at hb
  exact hb
theorem Inv.stkFree (I : Inv X pins σ H s) : ∀ b ∈ frs X.stack, H b = none := fun b hb => by
 rcases List.mem_cons.mp (I.stkSub b hb) with e | hb
 ·rw [e]; exact I.free
 ·obtain ⟨_, o, ho, _⟩ := I.ok.funs.mem hb
  exact I.base.free b o ho (I.ok.frf b hb) fun z => I.ok.exfs b z hb
theorem Inv.step {g' : Array GenState} {t' : Nat} {d' : Drawn} {ch : List Addr} (I : Inv X pins σ H s)
  (hch : ∀ b ∈ ch, (b ∈ X.ex \/ X.s₀.heap.objs.size <= b) /\ b ≠ X.env.locals /\ (∀ x c, X.env.cells.lookup x = some c -> c ≠ b) /\ ∀ p ∈ X.pn ++ pins, p.1 ≠ b)
  (keep : ∀ b o, b ≠ X.env.locals -> b ∉ X.fs -> b ∉ ch -> s.heap.get? b = some o -> H b = none -> h'.get? b = some o)
  (slot : ∀ b o, b ≠ X.env.locals -> b ∈ X.fs -> b ∉ ch -> s.heap.get? b = some o -> H b = none -> ∃ sl, h'.get? b = some { o with slots := sl }) (free : ∀ b o, b ∉ ch -> s.heap.get? b = some o -> H b = none -> H' b = none)
  (there : ∀ b o, b ∉ ch -> s.heap.get? b = some o -> ∃ o', h'.get? b = some o')
  (tups : ∀ b xs, H b = some (.tup xs) -> H' b = some (.tup xs)) (frzs : ∀ b o u, H b = some (.frz o u) -> H' b = some (.frz o u)) (tbls : ∀ b ps, H b = some (.tbl ps) -> ∃ more, H' b = some (.tbl (ps ++ more)))
  (ns : ∀ m, s.heap.Ns X.env.locals m -> h'.Ns X.env.locals m) (hok : HOk X.prog X.w H' h') (hg : AllBare g') :
  Inv X pins σ H' { s with heap := h', gens := g', drawn := d', toks := t' } := by
 have neL : ∀ b o, X.s₀.heap.get? b = some o -> b ≠ X.env.locals := fun b o e => Nat.ne_of_lt (Nat.lt_of_lt_of_le (Heap.lt_size e) I.ok.above)
 have neC : ∀ b o, X.s₀.heap.get? b = some o -> b ∉ X.ex -> b ∉ ch := fun b o e hx hb => by
  rcases (hch b hb).1 with z | z
  ·exact hx z
  ·exact absurd (Nat.lt_of_lt_of_le (Heap.lt_size e) z) (Nat.lt_irrefl _)
 have cellK : ∀ x c, X.env.cells.lookup x = some c -> ∀ v, s.heap.IsCell c v -> h'.IsCell c v := fun x c e v hpat => by
  obtain ⟨o, ho, hd⟩ := hpat
  have nch : c ∉ ch := fun z => (hch c z).2.2.1 x c e rfl
  by_cases hc : c ∈ X.fs
  ·obtain ⟨sl, q⟩ := slot c o (I.cne x c e) hc nch ho (I.freeC x c e)
   exact ⟨_, q, hd⟩
  ·exact ⟨o, keep c o (I.cne x c e) hc nch ho (I.freeC x c e), hd⟩
 refine ⟨I.ok, I.os, hg, ⟨fun b o e n hb hx => ?_, fun b o e n hb hx => ?_, fun b o e n hx => ?_, fun b o e hx => ?_, fun b xs e => tups b xs (I.base.tups b xs e), fun b o xs e => frzs b o xs (I.base.frzs b o xs e), fun b ps e => ?_⟩, ?_, fun x c e => ?_, ?_, fun x c e => ?_, fun p hp => ?_, hok, I.len⟩
 ·exact keep b o (neL b o e) hb (neC b o e hx) (I.base.keep b o e n hb hx) (I.base.free b o e n hx)
 ·obtain ⟨sl, e1⟩ := I.base.slot b o e n hb hx
  obtain ⟨sl', e2⟩ := slot b _ (neL b o e) hb (neC b o e hx) e1 (I.base.free b o e n hx)
  exact ⟨sl', e2⟩
 ·obtain ⟨o', e1⟩ := I.base.there b o e hx
  exact free b o' (neC b o e hx) e1 (I.base.free b o e n hx)
 ·obtain ⟨o', e1⟩ := I.base.there b o e hx
  exact there b o' (neC b o e hx) e1
 ·obtain ⟨m1, e1⟩ := I.base.tbls b ps e
  obtain ⟨m2, e2⟩ := tbls b _ e1
  exact ⟨m1 ++ m2, by rw [e2, Array.append_assoc]⟩
 ·obtain ⟨m, hn, hl⟩ := I.loc
  refine ⟨m, ns m hn, fun i x v e1 e2 e3 => ?_⟩
  obtain ⟨u, r, l⟩ := hl i x v e1 e2 e3
  refine ⟨u, r, ?_⟩
  rcases l with l | ⟨k, c, e, z⟩
  ·exact .inl l
  ·exact .inr ⟨k, c, e, cellK x c e _ z⟩
 ·obtain ⟨v, z⟩ := I.cell x c e
  exact ⟨v, cellK x c e v z⟩
 ·obtain ⟨m, ⟨o, _, _, ho, _⟩, _⟩ := I.loc
  exact free _ o (fun z => (hch _ z).2.1 rfl) ho I.free
 ·obtain ⟨v, o, ho, hd⟩ := I.cell x c e
  exact free c o (fun z => (hch c z).2.2.1 x c e rfl) ho (I.freeC x c e)
 ·obtain ⟨e, n, ne, nf, d⟩ := I.pin p hp
  have nch : p.1 ∉ ch := fun z => (hch p.1 z).2.2.2 p hp rfl
  exact ⟨keep p.1 p.2 ne nf nch e n, free p.1 p.2 nch e n, ne, nf, d⟩
theorem Inv.un {t' : Nat} (I : Inv X pins σ H s) (u : Un X.fs [] H H' s.heap h') (hok : HOk X.prog X.w H' h') : Inv X pins σ H' { s with heap := h', toks := t' } := by
 obtain ⟨m, ⟨o, es, ep, ho, r⟩, _⟩ := id I.loc
 obtain ⟨sl, hL⟩ := u.any ho I.free (by simp)
 exact I.step (g' := s.gens) (d' := s.drawn) (ch := []) (fun _ z => nomatch z) (fun b o _ hb _ e n => u.keep b o e n hb (by simp)) (fun b o _ hb _ e n => u.slot b o e n hb (by simp)) (fun b o _ e n => u.free b o e n (by simp)) (fun b o _ e => u.there b o e (by simp)) u.tups u.frzs u.tbls (fun m' hm => by
  obtain ⟨o', es', ep', ho', r'⟩ := hm
  rw [ho] at ho'; cases ho'
  exact ⟨_, es', ep', hL, r'⟩) hok I.bare
theorem Inv.call {g' : Array GenState} {t' : Nat} {d' : Drawn} {ch : List Addr} (I : Inv X pins σ H s) (u : Un (frs X.stack) ch H H' s.heap h') (hok : HOk X.prog X.w H' h') (hg : AllBare g')
  (hch : ∀ b ∈ ch, (b ∈ X.ex \/ X.s₀.heap.objs.size <= b) /\ b ≠ X.env.locals /\ (∀ x c, X.env.cells.lookup x = some c -> c ≠ b) /\ ∀ p ∈ X.pn ++ pins, p.1 ≠ b) :
  Inv X pins σ H' { s with heap := h', gens := g', drawn := d', toks := t' } := by
 obtain ⟨m, ⟨o, es, ep, ho, r⟩, _⟩ := id I.loc
 obtain ⟨sl, hL⟩ := u.any ho I.free fun z => (hch _ z).2.1 rfl
 exact I.step (ch := ch) hch (fun b o hL hb hc e n => u.keep b o e n (fun z => (List.mem_cons.mp (I.stkSub b z)).elim hL hb) hc) (fun b o _ _ hc e n => u.any e n hc) (fun b o hc e n => u.free b o e n hc) (fun b o hc e => u.there b o e hc) u.tups u.frzs u.tbls (fun m' hm => by
  obtain ⟨o', es', ep', ho', r'⟩ := hm
  rw [ho] at ho'; cases ho'
  exact ⟨_, es', ep', hL, r'⟩) hok hg
theorem Inv.turned {t' : Nat} {it : Addr} (I : Inv X pins σ H s) (k : ∀ b o, b ≠ it -> s.heap.get? b = some o -> h'.get? b = some o) (hn : H it = none) (hL : it ≠ X.env.locals)
  (h1 : it ∈ X.ex \/ X.s₀.heap.objs.size <= it) (h2 : ∀ x c, X.env.cells.lookup x = some c -> c ≠ it) (h3 : ∀ p ∈ X.pn ++ pins, p.1 ≠ it) : Inv X pins σ H { s with heap := h', toks := t' } := by
 have nit : ∀ b u, H b = some u -> b ≠ it := fun b u e z => by rw [z, hn] at e; cases e
 refine I.step (g' := s.gens) (d' := s.drawn) (ch := [it]) (fun b hb => ?_) (fun b o _ _ hc e _ => k b o (fun z => hc (by simp [z])) e) (fun b o _ _ hc e _ => ⟨o.slots, k b o (fun z => hc (by simp [z])) e⟩) (fun _ _ _ _ n => n)
  (fun b o hc e => ⟨o, k b o (fun z => hc (by simp [z])) e⟩) (fun _ _ e => e) (fun _ _ _ e => e) (fun b ps e => ⟨#[], by rw [e]; simp⟩) (fun m hm => ?_) (fun b u e => ?_) I.bare
 ·have e : b = it := by simpa using hb
  subst e
  exact ⟨h1, hL, h2, h3⟩
 ·obtain ⟨o, es, ep, ho, r⟩ := hm
  exact ⟨o, es, ep, k _ o (Ne.symm hL) ho, r⟩
 ·refine (I.hok b u e).stay (fun c v hc q => k c v ?_ q) (fun _ q => q) fun _ _ q => q
  rcases hc with z | z
  ·rw [z]; exact nit b u e
  ·exact nit c _ z
theorem Inv.tok (I : Inv X pins σ H s) (t : Nat) : Inv X pins σ H { s with toks := t } := I.un (h' := s.heap) (t' := t) Un.refl I.hok
theorem Inv.kept {t' : Nat} (I : Inv X pins σ H s) (k : ∀ b u, s.heap.get? b = some u -> h'.get? b = some u) : Inv X pins σ H { s with heap := h', toks := t' } := I.un (Un.kept k) (I.hok.kept k)
theorem Inv.laid {a : Addr} {o : HO} {t' : Nat} (I : Inv X pins σ H s) (k : ∀ b u, s.heap.get? b = some u -> h'.get? b = some u) (hp : s.heap.objs.size <= a) (new : ObjOk X.prog X.w (upd H a o) h' a o) :
  Inv X pins σ (upd H a o) { s with heap := h', toks := t' } := I.un (Un.laid k hp (I.hok.fresh hp)) (I.hok.laid k hp new)
theorem Inv.write {x e : Addr} {o : HO} {t' : Nat} (I : Inv X pins σ H s) (mu : Mut (H x)) (he : e = x \/ H e = some (.own x)) (k : ∀ b u, b ≠ e -> s.heap.get? b = some u -> h'.get? b = some u) (heo : ∃ u, h'.get? e = some u)
  (new : ObjOk X.prog X.w (upd H x o) h' x o) : Inv X pins σ (upd H x o) { s with heap := h', toks := t' } := I.un (Un.write mu he k heo) (I.hok.write mu he k heo new)
theorem Inv.pins_of {pins' : List (Addr × Obj)} (I : Inv X pins σ H s) (h : ∀ p ∈ pins', s.heap.get? p.1 = some p.2 /\ H p.1 = none /\ p.1 ≠ X.env.locals /\ p.1 ∉ X.fs /\ ∀ v, p.2.data ≠ .cell v) : Inv X pins' σ H s :=
 ⟨I.ok, I.os, I.bare, I.base, I.loc, I.cell, I.free, I.freeC, fun p hp => (List.mem_append.mp hp).elim (fun z => I.pin p (mem_append_left _ z)) (h p), I.hok, I.len⟩
theorem nodup_ix {N : List Str} (hN : N.Nodup) {i j : Nat} {x : Str} (a : N[i]? = some x) (b : N[j]? = some x) : i = j := by
 obtain ⟨h1, e1⟩ := List.getElem?_eq_some_iff.mp a
 obtain ⟨h2, e2⟩ := List.getElem?_eq_some_iff.mp b
 exact (getElem_inj hN).mp (e1.trans e2.symm)
theorem store_ok2 {M : Model} {A : Around} {E : Value -> Shared -> Prop} {i : Nat} {x : Str} {v : V} {u : Value} {Q : Unit -> Shared -> Prop} (I : Inv X pins σ H s) (hN : X.N.Nodup) (hi : X.N[i]? = some x) (hx : Loc X.env.scope x) (r : RelV v u)
  (h : ∀ s', Inv X pins (σ.set i (some v)) H s' -> (∃ a, Heap.SameBut a s.heap s'.heap /\ (a = X.env.locals \/ X.env.cells.lookup x = some a)) -> Q () s') (hf : X.fn x = true \/ X.env.scope.names.lookup x = some .local := by first | exact .inl rfl | exact .inr rfl | assumption) : wpAny M A (storeName X.env x u) Q E s := by
 obtain ⟨m, hn, hl⟩ := id I.loc
 have hcls : (X.env.scope.kind == .class || (X.env.scope.kind == .module && X.env.locals != X.env.globals)) = false := by rw [I.ok.kind]; rfl
 have hiσ : i < σ.length := by rw [I.len]; exact (List.getElem?_eq_some_iff.mp hi).1
 have cne := I.cne
 have tracked : ∀ {a : Addr} {h' : Heap}, (∃ o, s.heap.get? a = some o /\ H a = none) -> Heap.SameBut a s.heap h' -> HOk X.prog X.w H h' := fun {a h'} ha hs b ob e => by
  obtain ⟨_, _, hfree⟩ := ha
  refine (I.hok b ob e).stay (fun c w' hc q => (hs.2 c ?_).trans q) (fun _ q => q) fun _ _ q => q
  rintro rfl
  rcases hc with rfl | hc
  ·rw [hfree] at e; cases e
  ·rw [hfree] at hc; cases hc
 rcases hx with hk | hk
 ·refine wpAny_storeName_local hk hn (fun h' hn' hs => ?_) hcls
  obtain ⟨oL, _, _, hoL, _⟩ := id hn
  refine h _ ⟨I.ok, I.os, I.bare, ⟨fun b o e n hb hx => ?_, fun b o e n hb hx => ?_, I.base.free, fun b o e hx => ?_, I.base.tups, I.base.frzs, I.base.tbls⟩, ⟨_, hn', fun j y v' e1 e2 e3 => ?_⟩, fun y c e => ?_, I.free, I.freeC, fun p hp => ?_, tracked ⟨oL, hoL, I.free⟩ hs, by simpa using I.len⟩ ⟨_, hs, .inl rfl⟩
  ·exact (hs.2 b (Nat.ne_of_lt (Nat.lt_of_lt_of_le (Heap.lt_size e) I.ok.above))).trans (I.base.keep b o e n hb hx)
  ·obtain ⟨sl, e1⟩ := I.base.slot b o e n hb hx
   exact ⟨sl, (hs.2 b (Nat.ne_of_lt (Nat.lt_of_lt_of_le (Heap.lt_size e) I.ok.above))).trans e1⟩
  ·obtain ⟨o', e1⟩ := I.base.there b o e hx
   exact ⟨o', (hs.2 b (Nat.ne_of_lt (Nat.lt_of_lt_of_le (Heap.lt_size e) I.ok.above))).trans e1⟩
  ·by_cases hj : j = i
   ·subst hj
    rw [hi] at e1; cases e1
    rw [getElem?_set_self hiσ] at e2
    cases e2
    exact ⟨u, r, .inl ⟨hk, by simp⟩⟩
   ·rw [getElem?_set_ne (Ne.symm hj)] at e2
    obtain ⟨u', r', q⟩ := hl j y v' e1 e2 e3
    refine ⟨u', r', ?_⟩
    rcases q with ⟨k, e⟩ | ⟨k, c, e, z⟩
    ·refine .inl ⟨k, ?_⟩
     have : y ≠ x := fun e => hj (nodup_ix hN e1 (e ▸ hi))
     simp [this, e]
    ·exact .inr ⟨k, c, e, z.sameBut hs (cne y c e)⟩
  ·obtain ⟨w', z⟩ := I.cell y c e
   exact ⟨w', z.sameBut hs (cne y c e)⟩
  ·obtain ⟨e, n, ne, nf, d⟩ := I.pin p hp
   exact ⟨(hs.2 p.1 ne).trans e, n, ne, nf, d⟩
 ·have hfn : X.fn x = true := by
   rcases hf with z | z
   ·exact z
   ·rw [z] at hk; cases hk
  obtain ⟨c, hc⟩ := I.ok.has x (.inl hk)
  obtain ⟨w', z⟩ := I.cell x c hc
  refine wpAny_storeName_cell I.ok.kind hk hc z (fun h' hc' hs => ?_)
  obtain ⟨oc, hoc, hocd⟩ := id z
  refine h { s with heap := h' } ⟨I.ok, I.os, I.bare, ⟨fun b o e n hb hx => ?_, fun b o e n hb hx => ?_, I.base.free, fun b o e hx => ?_, I.base.tups, I.base.frzs, I.base.tbls⟩, ⟨m, hn.sameBut hs (Ne.symm (cne x c hc)), fun j y v' e1 e2 e3 => ?_⟩, fun y c' e => ?_, I.free, I.freeC, fun p hp => ?_, tracked ⟨oc, hoc, I.freeC x c hc⟩ hs, by simpa using I.len⟩ ⟨c, hs, .inr hc⟩
  ·exact (hs.2 b (Nat.ne_of_lt (Nat.lt_of_lt_of_le (Heap.lt_size e) (I.ok.cab x c hfn hc)))).trans (I.base.keep b o e n hb hx)
  ·obtain ⟨sl, e1⟩ := I.base.slot b o e n hb hx
   exact ⟨sl, (hs.2 b (Nat.ne_of_lt (Nat.lt_of_lt_of_le (Heap.lt_size e) (I.ok.cab x c hfn hc)))).trans e1⟩
  ·obtain ⟨o', e1⟩ := I.base.there b o e hx
   exact ⟨o', (hs.2 b (Nat.ne_of_lt (Nat.lt_of_lt_of_le (Heap.lt_size e) (I.ok.cab x c hfn hc)))).trans e1⟩
  ·by_cases hj : j = i
   ·subst hj
    rw [hi] at e1; cases e1
    rw [getElem?_set_self hiσ] at e2
    cases e2
    exact ⟨u, r, .inr ⟨.inl hk, c, hc, hc'⟩⟩
   ·rw [getElem?_set_ne (Ne.symm hj)] at e2
    obtain ⟨u', r', q⟩ := hl j y v' e1 e2 e3
    refine ⟨u', r', ?_⟩
    rcases q with q | ⟨k, c', e, z'⟩
    ·exact .inl q
    ·refine .inr ⟨k, c', e, z'.sameBut hs ?_⟩
     rintro rfl
     exact hj (nodup_ix hN e1 (I.ok.inj _ _ _ e hc ▸ hi))
  ·by_cases hcc : c' = c
   ·subst hcc; exact ⟨_, hc'⟩
   ·obtain ⟨w2, z2⟩ := I.cell y c' e
    exact ⟨w2, z2.sameBut hs hcc⟩
  ·obtain ⟨e, n, ne, nf, d⟩ := I.pin p hp
   refine ⟨(hs.2 p.1 ?_).trans e, n, ne, nf, d⟩
   intro q
   rw [q, hoc] at e
   have q' : oc = p.2 := Option.some.inj e
   exact d w' (by rw [<- q']; exact hocd)
theorem store_ok {M : Model} {A : Around} {E : Value -> Shared -> Prop} {i : Nat} {x : Str} {v : V} {u : Value} {Q : Unit -> Shared -> Prop} (I : Inv X pins σ H s) (hN : X.N.Nodup) (hi : X.N[i]? = some x) (hx : Loc X.env.scope x) (r : RelV v u)
  (h : ∀ s', Inv X pins (σ.set i (some v)) H s' -> Q () s') (hf : X.fn x = true \/ X.env.scope.names.lookup x = some .local := by first | exact .inl rfl | exact .inr rfl | assumption) : wpAny M A (storeName X.env x u) Q E s :=
 store_ok2 I hN hi hx r (fun s' I' _ => h s' I') hf
theorem Inv.call' {s' : Shared} {ch : List Addr} (I : Inv X pins σ H s) (ho : s'.os = s.os) (u : Un (frs X.stack) ch H H' s.heap s'.heap) (hok : HOk X.prog X.w H' s'.heap) (hg : AllBare s'.gens)
  (hch : ∀ b ∈ ch, (b ∈ X.ex \/ X.s₀.heap.objs.size <= b) /\ b ≠ X.env.locals /\ (∀ x c, X.env.cells.lookup x = some c -> c ≠ b) /\ ∀ p ∈ X.pn ++ pins, p.1 ≠ b) : Inv X pins σ H' s' := by
 obtain ⟨h', g', d', t', o'⟩ := s'
 have e : o' = s.os := ho
 subst e
 exact I.call (g' := g') (t' := t') (d' := d') u hok hg hch
end
abbrev XK := Value -> Option Addr -> Hp -> Prop
abbrev St := List (Option V)
abbrev VK := V -> Hp -> Prop
abbrev TE := St -> Hp -> VK -> Prop
abbrev TT := St -> Hp -> (Bool -> Hp -> Prop) -> Prop
abbrev TA := St -> Hp -> (List V -> Hp -> Prop) -> Prop
structure Ends where
 nx : St -> Hp -> Prop
 rt : VK
 bk : St -> Hp -> Prop := fun _ _ => False
 ct : St -> Hp -> Prop := fun _ _ => False
abbrev TS := Ends -> St -> Hp -> Prop
def EP (X : Cx) (pins : List (Addr × Obj)) (σ : St) (Q : VK) (u : Value) (s' : Shared) : Prop := ∃ v H', Inv X pins σ H' s' /\ RelV v u /\ Q v H'
def TP (X : Cx) (pins : List (Addr × Obj)) (σ : St) (Q : Bool -> Hp -> Prop) (b : Bool) (s' : Shared) : Prop := ∃ H', Inv X pins σ H' s' /\ Q b H'
def AP (X : Cx) (pins : List (Addr × Obj)) (σ : St) (Q : List V -> Hp -> Prop) (us : List Value) (s' : Shared) : Prop := ∃ vs H', Inv X pins σ H' s' /\ Vals vs us /\ Q vs H'
def SP (X : Cx) (pins : List (Addr × Obj)) (D : Ends) (f : Flow) (s' : Shared) : Prop :=
 match f with
 | .next => ∃ σ' H', Inv X pins σ' H' s' /\ D.nx σ' H'
 | .brk => ∃ σ' H', Inv X pins σ' H' s' /\ D.bk σ' H'
 | .cont => ∃ σ' H', Inv X pins σ' H' s' /\ D.ct σ' H'
 | .ret u => ∃ v σ' H', Inv X pins σ' H' s' /\ RelV v u /\ D.rt v H'
def PE (X : Cx) (e : Expr) (t : TE) : Prop :=
 ∀ (pins : List (Addr × Obj)) (s : Shared) (σ : St) (H : Hp) (Q : VK), Inv X pins σ H s -> t σ H Q -> wpAny (model X.prog X.w) X.A (eval e X.env) (EP X pins σ Q) X.xe s
def PT (X : Cx) (e : Expr) (t : TT) : Prop :=
 ∀ (pins : List (Addr × Obj)) (s : Shared) (σ : St) (H : Hp) (Q : Bool -> Hp -> Prop), Inv X pins σ H s -> t σ H Q -> wpAny (model X.prog X.w) X.A (isTrue e X.env (eval e X.env)) (TP X pins σ Q) X.xe s
def PW (X : Cx) (e : Expr) (t : TT) : Prop :=
 ∀ (whole : Sem Value) (pins : List (Addr × Obj)) (s : Shared) (σ : St) (H : Hp) (Q : Bool -> Hp -> Prop), Inv X pins σ H s -> t σ H Q -> wpAny (model X.prog X.w) X.A (isTrue e X.env whole) (TP X pins σ Q) X.xe s
theorem PW.pt {X : Cx} {e : Expr} {t : TT} (h : PW X e t) : PT X e t := h _
def PA (X : Cx) (es : List Expr) (t : TA) : Prop :=
 ∀ (pos : Pos) (pins : List (Addr × Obj)) (s : Shared) (σ : St) (H : Hp) (Q : List V -> Hp -> Prop), Inv X pins σ H s -> t σ H Q -> wpAny (model X.prog X.w) X.A (spliced (backTo pos (starEach es X.env))) (AP X pins σ Q) X.xe s
def PS (X : Cx) (st : Stmt) (t : TS) : Prop :=
 ∀ (pins : List (Addr × Obj)) (s : Shared) (σ : St) (H : Hp) (D : Ends), Inv X pins σ H s -> t D σ H -> wpAny (model X.prog X.w) X.A (exec st X.env) (SP X pins D) X.xe s
def PSs (X : Cx) (st : List Stmt) (t : TS) : Prop :=
 ∀ (pins : List (Addr × Obj)) (s : Shared) (σ : St) (H : Hp) (D : Ends), Inv X pins σ H s -> t D σ H -> wpAny (model X.prog X.w) X.A (execs st X.env) (SP X pins D) X.xe s
theorem thn {α : Type} {t : Sem α} {Q Q' : α -> Shared -> Prop} {M : Model} {A : Around} {E : Value -> Shared -> Prop} {s : Shared} (h : wpAny M A t Q E s) (hQ : ∀ a s, Q a s -> Q' a s) : wpAny M A t Q' E s := wpAny_mono h hQ fun _ _ x => x
end
section
section
variable {X : Cx}
def tVar (i : Nat) : TE := fun σ H Q => ∃ v, σ[i]? = some (some v) /\ Q v H
def tC (v : V) : TE := fun _ H Q => Q v H
theorem pe_var {i : Nat} {x : Str} {pos : Pos} (hN : X.N[i]? = some x) (hv : Vis X.env.scope x) (hd : (x == ("__debug__" : Str)) = false := by decide) (hcd : (x == ("__classdict__" : Str)) = false := by decide) : PE X (.Name x pos) (tVar i) := by
 intro pins s σ H Q I h
 obtain ⟨v, e, h⟩ := h
 obtain ⟨m, hn, hl⟩ := I.loc
 obtain ⟨u, r, l⟩ := hl i x v hN e hv
 have fin : EP X pins σ Q u s := ⟨v, H, I, r, h⟩
 rcases l with ⟨hk, hm⟩ | ⟨hk, c, hc, hcell⟩
 ·exact wpAny_Name (wpAny_loadName_local I.ok.kind hk hn hm fin) hd
 ·rcases hk with hk | hk
  ·exact wpAny_Name (wpAny_loadName_cell I.ok.kind hk hc hcell fin) hd
  ·exact wpAny_Name (wpAny_loadName_free I.ok.kind hk hc hcell fin hcd) hd
theorem pe_int {i j pos} : PE X (.Constant (.int i) j pos) (tC (.int i)) := fun _ _ _ H _ I h => wpAny_Constant_int ⟨.int i, H, I.tok _, ⟨_, rfl⟩, h⟩
theorem pe_bl {b j pos} : PE X (.Constant (.bool b) j pos) (tC (.bl b)) := fun _ _ _ H _ I h => Constant_bool ⟨.bl b, H, I, rfl, h⟩
theorem pe_non {j pos} : PE X (.Constant .none j pos) (tC .non) := fun _ _ _ H _ I h => Constant_none ⟨.non, H, I, rfl, h⟩
theorem pe_str {x j pos} : PE X (.Constant (.str x) j pos) (tC (.str x)) := fun _ _ _ H _ I h => Calls.Constant_str ⟨.str x, H, I.tok _, ⟨_, rfl⟩, h⟩
def Gl (X : Cx) (x : Str) : Prop := X.env.kindOf x = some .globalImplicit
theorem ld_glob {E : Value -> Shared -> Prop} {pins : List (Addr × Obj)} {s : Shared} {σ : St} {H : Hp} {x : Str} {u : Value} {pos : Pos} {Q : Value -> Shared -> Prop} (I : Inv X pins σ H s) (hg : Gl X x) (hm : X.mg x = some u) (h : Q u s)
  (hd : (x == ("__debug__" : Str)) = false := by decide) : wpAny (model X.prog X.w) X.A (eval (.Name x pos) X.env) Q E s :=
 Calls.Name_function_global I.ok.kind hg (Calls.loadGlobal_global (by rw [I.ok.glob]; exact I.mod.glob.keeps I.bk) hm h) hd
theorem ld_blt {E : Value -> Shared -> Prop} {pins : List (Addr × Obj)} {s : Shared} {σ : St} {H : Hp} {x : Str} {u : Value} {pos : Pos} {Q : Value -> Shared -> Prop} (I : Inv X pins σ H s) (hg : Gl X x) (hm : X.mg x = none) (hv : bootBuiltins x = some u) (h : Q u s)
  (hn : x ≠ "__name__" := by decide) (hd : (x == ("__debug__" : Str)) = false := by decide) : wpAny (model X.prog X.w) X.A (eval (.Name x pos) X.env) Q E s := by
 obtain ⟨mb, h1, h2⟩ := I.mod.blt
 exact Calls.Name_function_global I.ok.kind hg (Calls.loadGlobal_builtin (by rw [I.ok.glob]; exact I.mod.glob.keeps I.bk) hm (by rw [I.ok.blt]; exact h1.keeps I.bk) ((h2 x hn).trans hv) h) hd
theorem pe_glob {x : Str} {v : V} {u : Value} {pos : Pos} (hg : Gl X x) (hm : X.mg x = some u) (r : RelV v u) (hd : (x == ("__debug__" : Str)) = false := by decide) : PE X (.Name x pos) (tC v) :=
 fun _ _ _ H _ I h => ld_glob I hg hm ⟨v, H, I, r, h⟩ hd
theorem pe_bltn {x : Str} {v : V} {u : Value} {pos : Pos} (hg : Gl X x) (hm : X.mg x = none) (hv : bootBuiltins x = some u) (r : RelV v u) (hn : x ≠ "__name__" := by decide) (hd : (x == ("__debug__" : Str)) = false := by decide) : PE X (.Name x pos) (tC v) :=
 fun _ _ _ H _ I h => ld_blt I hg hm hv ⟨v, H, I, r, h⟩ hn hd
variable {a b : Expr} {ta tb : TE} {pos : Pos}
variable {tA tB' : TT} {rest : List Expr}
def tAnd (t u : TT) : TT := fun σ H Q => t σ H fun c H1 => if c = true then u σ H1 Q else Q false H1
def tOr (t u : TT) : TT := fun σ H Q => t σ H fun c H1 => if c = true then Q true H1 else u σ H1 Q
def tNot (t : TT) : TT := fun σ H Q => t σ H fun c H1 => Q (!c) H1
theorem pw_and1 (ha : PT X a tA) : PW X (.BoolOp .And [a] pos) tA := by
 intro wh pins s σ H Q I h
 refine isTrue_and (thn (ha pins s σ H Q I h) fun c s1 e => ?_)
 cases c with
 | true => exact isTrue_and_nil e
 | false => exact e
theorem pw_or1 (ha : PT X a tA) : PW X (.BoolOp .Or [a] pos) tA := by
 intro wh pins s σ H Q I h
 refine isTrue_or (thn (ha pins s σ H Q I h) fun c s1 e => ?_)
 cases c with
 | false => exact isTrue_or_nil e
 | true => exact e
theorem pw_and (ha : PT X a tA) (hb : PW X (.BoolOp .And (b :: rest) pos) tB') : PW X (.BoolOp .And (a :: b :: rest) pos) (tAnd tA tB') := by
 intro wh pins s σ H Q I h
 refine isTrue_and (thn (ha pins s σ H _ I h) fun c s1 hpat => ?_)
 obtain ⟨H1, I1, q1⟩ := hpat
 cases c with
 | true => exact hb wh pins s1 σ H1 Q I1 q1
 | false => exact ⟨H1, I1, q1⟩
theorem pw_or (ha : PT X a tA) (hb : PW X (.BoolOp .Or (b :: rest) pos) tB') : PW X (.BoolOp .Or (a :: b :: rest) pos) (tOr tA tB') := by
 intro wh pins s σ H Q I h
 refine isTrue_or (thn (ha pins s σ H _ I h) fun c s1 hpat => ?_)
 obtain ⟨H1, I1, q1⟩ := hpat
 cases c with
 | true => exact ⟨H1, I1, q1⟩
 | false => exact hb wh pins s1 σ H1 Q I1 q1
theorem pt_not (ha : PT X a tA) : PT X (.UnaryOp .Not a pos) (tNot tA) := by
 intro pins s σ H Q I h
 exact isTrue_not (ha pins s σ H (fun c H1 => Q (!c) H1) I h)
def tAndV (ta tb : TE) : TE := fun σ H Q => ta σ H fun x H1 => ∃ c, x = .bl c /\ if c = true then tb σ H1 Q else Q (.bl false) H1
def tNotV (ta : TE) : TE := fun σ H Q => ta σ H fun x H1 => ∃ c, x = .bl c /\ Q (.bl (!c)) H1
theorem pe_one {op} {t : TE} (h : PE X a t) : PE X (.BoolOp op [a] pos) t := fun pins s σ H Q I hw => BoolOp_one (h pins s σ H Q I hw)
theorem pe_and (ha : PE X a ta) (hb : PE X (.BoolOp .And (b :: rest) pos) tb) : PE X (.BoolOp .And (a :: b :: rest) pos) (tAndV ta tb) := by
 intro pins s σ H Q I h
 refine BoolOp_and (thn (ha pins s σ H _ I h) fun v s1 hpat => ?_)
 obtain ⟨x, H1, I1, r1, q1⟩ := hpat
 obtain ⟨c, rfl, q1⟩ := q1
 cases r1
 refine wpAny_truthy_bool ?_
 cases c with
 | true => exact hb pins s1 σ H1 Q I1 q1
 | false => exact ⟨.bl false, H1, I1, rfl, q1⟩
theorem pe_not (ha : PE X a ta) : PE X (.UnaryOp .Not a pos) (tNotV ta) := by
 intro pins s σ H Q I h
 refine UnaryOp_ (thn (ha pins s σ H _ I h) fun v s1 hpat => ?_)
 obtain ⟨x, H1, I1, r1, q1⟩ := hpat
 obtain ⟨c, rfl, q1⟩ := q1
 cases r1
 exact not_of (wpAny_truthy_bool ⟨.bl (!c), H1, I1, rfl, q1⟩)
end
end
section
def SqL (K : W.Frag) (H : Hp) (a : Addr) (xs : List V) : Prop :=
 Rd H a (.lst xs) \/
  ∃ (o : Obj) (its : Array Value) (n : Nat), K.lookup a = some o /\ o.cls = .type "list" /\ o.dict = none /\ o.data = .seq its n /\ its.size <= sizeLine /\ Vals xs its.toList
def SqT (K : W.Frag) (H : Hp) (a : Addr) (xs : List V) : Prop :=
 Rd H a (.tup xs) \/
  ∃ (o : Obj) (its : Array Value) (n : Nat), K.lookup a = some o /\ o.cls = .type "tuple" /\ o.data = .seq its n /\ its.size <= sizeLine /\ Vals xs its.toList
def absV : Value -> Option V
 | .none => some .non
 | .bool b => some (.bl b)
 | .int i _ => some (.int i)
 | .str x _ => some (.str x)
 | .bytes b _ => some (.byt b)
 | .float b _ => some (.flt b)
 | .ref a => some (.ref a)
 | .type n => some (.ty n)
 | _ => none
theorem RelV.abs {x : V} {u : Value} (r : RelV x u) : absV u = some x := by
 cases x with
 | non => cases r; rfl
 | bl _ => cases r; rfl
 | int _ => obtain ⟨t, rfl⟩ := r; rfl
 | str _ => obtain ⟨t, rfl⟩ := r; rfl
 | byt _ => obtain ⟨t, rfl⟩ := r; rfl
 | flt _ => obtain ⟨t, rfl⟩ := r; rfl
 | ref _ => cases r; rfl
 | ty _ => cases r; rfl
theorem RelV.inj {x y : V} {u : Value} (r : RelV x u) (q : RelV y u) : x = y := Option.some.inj (r.abs.symm.trans q.abs)
theorem Vals.inj : ∀ {xs ys : List V} {us : List Value}, Vals xs us -> Vals ys us -> xs = ys
 | _, _, _, .nil, .nil => rfl
 | _, _, _, .cons r t, .cons r' t' => by rw [r.inj r', Vals.inj t t']
section
variable {X : Cx} {pins : List (Addr × Obj)} {σ : St} {H : Hp} {s : Shared} {a : Addr} {xs ys : List V}
theorem SqL.of {K : W.Frag} (h : H a = some (.lst xs)) : SqL K H a xs := .inl (.inl h)
theorem SqT.of {K : W.Frag} (h : H a = some (.tup xs)) : SqT K H a xs := .inl (.inl h)
theorem Inv.list (I : Inv X pins σ H s) (h : SqL X.K H a xs) : ∃ its : List Value, Vals xs its /\ PlainL s.heap a its.toArray /\ xs.length <= sizeLine := by
 rcases h with h | ⟨o, its, n, hk, hc, hd, hs, hz, r⟩
 ·obtain ⟨z, its, n, r, e⟩ := h.ok I.hok
  exact ⟨its, r, ⟨_, n, e, rfl, rfl, rfl⟩, z⟩
 ·refine ⟨its.toList, r, ⟨o, n, I.kIn a o hk, hc, hd, by simpa using hs⟩, ?_⟩
  have e := r.length
  simp only [Array.length_toList] at e
  omega
theorem Inv.tuple (I : Inv X pins σ H s) (h : SqT X.K H a xs) : ∃ its : List Value, Vals xs its /\ IsTup s.heap a its.toArray /\ xs.length <= sizeLine := by
 rcases h with h | ⟨o, its, n, hk, hc, hs, hz, r⟩
 ·obtain ⟨z, its, r, p⟩ := h.ok I.hok
  exact ⟨its, r, p, z⟩
 ·refine ⟨its.toList, r, ⟨o, I.kIn a o hk, hc, n, by simpa using hs⟩, ?_⟩
  have e := r.length
  simp only [Array.length_toList] at e
  omega
theorem Inv.list_inj (I : Inv X pins σ H s) (h : SqL X.K H a xs) (h' : SqL X.K H a ys) : xs = ys := by
 obtain ⟨its, r, ⟨o, n, e, _, _, d⟩, _⟩ := I.list h
 obtain ⟨its', r', ⟨o', n', e', _, _, d'⟩, _⟩ := I.list h'
 rw [e] at e'; cases e'
 rw [d] at d'
 injection d' with d1 _
 have : its = its' := by simpa using congrArg Array.toList d1
 subst this
 exact r.inj r'
theorem Inv.tuple_inj (I : Inv X pins σ H s) (h : SqT X.K H a xs) (h' : SqT X.K H a ys) : xs = ys := by
 obtain ⟨its, r, ⟨o, e, _, n, d⟩, _⟩ := I.tuple h
 obtain ⟨its', r', ⟨o', e', _, n', d'⟩, _⟩ := I.tuple h'
 rw [e] at e'; cases e'
 rw [d] at d'
 injection d' with d1 _
 have : its = its' := by simpa using congrArg Array.toList d1
 subst this
 exact r.inj r'
end
abbrev Cx.wish (X : Cx) (E : Value -> Shared -> Prop) : Cx := { X with xe := E }
abbrev Cx.nox (X : Cx) : Cx := X.wish fun _ _ => False
theorem Cx.Ok.wish {X : Cx} (ok : X.Ok) (E : Value -> Shared -> Prop) : (X.wish E).Ok :=
 ⟨ok.mod, ok.kind, ok.glob, ok.blt, ok.above, ok.inj, ok.has, ok.cab, ok.hd, ok.frames, ok.stk, ok.exf, ok.bs, ok.bsz, ok.noex, ok.exfs, ok.funs, ok.frf⟩
theorem Cx.Ok.unwish {X : Cx} {E : Value -> Shared -> Prop} (ok : (X.wish E).Ok) : X.Ok :=
 ⟨ok.mod, ok.kind, ok.glob, ok.blt, ok.above, ok.inj, ok.has, ok.cab, ok.hd, ok.frames, ok.stk, ok.exf, ok.bs, ok.bsz, ok.noex, ok.exfs, ok.funs, ok.frf⟩
section
variable {X : Cx} {pins : List (Addr × Obj)} {σ : St} {H : Hp} {s : Shared} {E : Value -> Shared -> Prop}
theorem Inv.wish (I : Inv X pins σ H s) (E : Value -> Shared -> Prop) : Inv (X.wish E) pins σ H s := ⟨I.ok.wish E, I.os, I.bare, I.base, I.loc, I.cell, I.free, I.freeC, I.pin, I.hok, I.len⟩
theorem Inv.unwish (I : Inv (X.wish E) pins σ H s) : Inv X pins σ H s := ⟨I.ok.unwish, I.os, I.bare, I.base, I.loc, I.cell, I.free, I.freeC, I.pin, I.hok, I.len⟩
theorem SP.unwish {D : Ends} {f : Flow} {s' : Shared} (h : SP (X.wish E) pins D f s') : SP X pins D f s' := by
 cases f with
 | next => obtain ⟨σ', H', I, q⟩ := h; exact ⟨σ', H', I.unwish, q⟩
 | brk => obtain ⟨σ', H', I, q⟩ := h; exact ⟨σ', H', I.unwish, q⟩
 | cont => obtain ⟨σ', H', I, q⟩ := h; exact ⟨σ', H', I.unwish, q⟩
 | ret u => obtain ⟨v, σ', H', I, r, q⟩ := h; exact ⟨v, σ', H', I.unwish, r, q⟩
theorem PE.nox {e : Expr} {t : TE} (h : PE X.nox e t) : PE X e t := fun pins s σ H Q I hw =>
 wpAny_mono (h pins s σ H Q (I.wish _) hw) (fun _ _ ⟨v, H', I', r, q⟩ => ⟨v, H', I'.unwish, r, q⟩) fun _ _ z => False.elim z
theorem PT.nox {e : Expr} {t : TT} (h : PT X.nox e t) : PT X e t := fun pins s σ H Q I hw =>
 wpAny_mono (h pins s σ H Q (I.wish _) hw) (fun _ _ ⟨H', I', q⟩ => ⟨H', I'.unwish, q⟩) fun _ _ z => False.elim z
theorem PSs.nox {st : List Stmt} {t : TS} (h : PSs X.nox st t) : PSs X st t := fun pins s σ H D I hw =>
 wpAny_mono (h pins s σ H D (I.wish _) hw) (fun _ _ q => q.unwish) fun _ _ z => False.elim z
end
section
variable {X : Cx} {st : Stmt} {rest : List Stmt} {t u : TS} {e : Expr} {te : TE} {pos : Pos}
def tNext : TS := fun D σ H => D.nx σ H
def tSeq (t u : TS) : TS := fun D σ H => t { D with nx := u D } σ H
theorem pss_nil : PSs X [] tNext := fun _ _ σ H _ I h => wpAny_execs_nil ⟨σ, H, I, h⟩
theorem pss_cons (h1 : PS X st t) (h2 : PSs X rest u) : PSs X (st :: rest) (tSeq t u) := by
 intro pins s σ H D I h
 refine wpAny_execs_cons (thn (h1 pins s σ H { D with nx := u D } I h) fun f s1 q => ?_)
 cases f with
 | next =>
  obtain ⟨σ', H', I', q⟩ := q
  exact h2 pins s1 σ' H' D I' q
 | ret v => exact q
 | brk => exact q
 | cont => exact q
theorem pss_one (h1 : PS X st t) : PSs X [st] t := by
 intro pins s σ H D I h
 refine wpAny_execs_cons (thn (h1 pins s σ H D I h) fun f s1 q => ?_)
 cases f with
 | next => exact wpAny_execs_nil q
 | ret v => exact q
 | brk => exact q
 | cont => exact q
theorem Inv.quiet {pins : List (Addr × Obj)} {σ : St} {H : Hp} {s : Shared} (I : Inv X pins σ H s) : interactive X.env = false := by simp [interactive, I.ok.kind]
def tDrop (te : TE) : TS := fun D σ H => te σ H fun _ H1 => D.nx σ H1
theorem ps_expr (he : PE X e te) (hs : swapsWith e none pos.line X.env = pure false := by rfl) : PS X (.Expr e pos) (tDrop te) := by
 intro pins s σ H D I h
 exact wpAny_Expr_any (thn (he pins s σ H _ I h) fun v s1 ⟨x, H1, I1, r1, q1⟩ => ⟨σ, H1, I1, q1⟩) I.quiet hs
def tRet (te : TE) : TS := fun D σ H => te σ H D.rt
theorem ps_ret (he : PE X e te) : PS X (.Return (some e) pos) (tRet te) := by
 intro pins s σ H D I h
 exact wpAny_Return_some (thn (he pins s σ H _ I h) fun v s1 ⟨x, H1, I1, r1, q1⟩ => ⟨x, σ, H1, I1, r1, q1⟩)
def tIfS (c : TT) (t u : TS) : TS := fun D σ H => c σ H fun b H1 => if b = true then t D σ H1 else u D σ H1
theorem ps_if {c : Expr} {a b : List Stmt} {tc : TT} (hc : PT X c tc) (ha : PSs X a t) (hb : PSs X b u) : PS X (.If c a b pos) (tIfS tc t u) := by
 intro pins s σ H D I h
 refine wpAny_If (thn (hc pins s σ H _ I h) fun d s1 hpat => ?_)
 obtain ⟨H1, I1, q1⟩ := hpat
 cases d with
 | true => exact ha pins s1 σ H1 D I1 q1
 | false => exact hb pins s1 σ H1 D I1 q1
def tNever : TS := fun _ _ _ => False
theorem ps_never : PS X st tNever := fun _ _ _ _ _ _ h => h.elim
end
abbrev TG := V -> St -> Hp -> (St -> Hp -> Prop) -> Prop
abbrev TGs := List V -> St -> Hp -> (St -> Hp -> Prop) -> Prop
def PG (X : Cx) (target : Expr) (t : TG) : Prop :=
 ∀ (pins : List (Addr × Obj)) (s : Shared) (σ : St) (H : Hp) (v : V) (u : Value) (Q : St -> Hp -> Prop), Inv X pins σ H s -> RelV v u -> t v σ H Q ->
  wpAny (model X.prog X.w) X.A (assign target X.env u) (fun _ s' => ∃ σ' H', Inv X pins σ' H' s' /\ Q σ' H') X.xe s
def PGs (X : Cx) (ts : List Expr) (t : TGs) : Prop :=
 ∀ (pins : List (Addr × Obj)) (s : Shared) (σ : St) (H : Hp) (vs : List V) (us : List Value) (Q : St -> Hp -> Prop), Inv X pins σ H s -> Vals vs us -> t vs σ H Q ->
  wpAny (model X.prog X.w) X.A (assignInOrder ((assignEach ts X.env).map (·.2)) us) (fun _ s' => ∃ σ' H', Inv X pins σ' H' s' /\ Q σ' H') X.xe s
abbrev TSet := V -> V -> V -> Hp -> (Hp -> Prop) -> Prop
def PSet (X : Cx) (t : TSet) : Prop :=
 ∀ (pins : List (Addr × Obj)) (s : Shared) (σ : St) (H : Hp) (o i v : V) (ov iv u : Value) (Q : Hp -> Prop), Inv X pins σ H s -> RelV o ov -> RelV i iv -> RelV v u -> t o i v H Q ->
  wpAny (model X.prog X.w) X.A (setItem ov iv u) (fun _ s' => ∃ H', Inv X pins σ H' s' /\ Q H') X.xe s
abbrev TIp := V -> V -> Hp -> VK -> Prop
def PIp (X : Cx) (op : Operator) (t : TIp) : Prop :=
 ∀ (pins : List (Addr × Obj)) (s : Shared) (σ : St) (H : Hp) (x y : V) (v u : Value) (Q : VK), Inv X pins σ H s -> RelV x v -> RelV y u -> t x y H Q ->
  wpAny (model X.prog X.w) X.A (inplaceOp op v u) (EP X pins σ Q) X.xe s
section
variable {X : Cx} {pos : Pos}
def gName (i : Nat) : TG := fun v σ H Q => Q (σ.set i (some v)) H
theorem pg_name {i : Nat} {x : Str} (hN : X.N.Nodup) (hi : X.N[i]? = some x) (hx : Loc X.env.scope x) (hf : X.fn x = true \/ X.env.scope.names.lookup x = some .local := by first | exact .inl rfl | exact .inr rfl | assumption) : PG X (.Name x pos) (gName i) := by
 intro pins s σ H v u Q I r h
 exact wpAny_assign_Name (store_ok I hN hi hx r (fun s' I' => ⟨_, H, I', h⟩) hf)
def gNil : TGs := fun vs σ H Q => vs = [] /\ Q σ H
def gCons (t : TG) (u : TGs) : TGs := fun vs σ H Q => ∃ v r, vs = v :: r /\ t v σ H fun σ' H' => u r σ' H' Q
theorem pgs_nil : PGs X [] gNil := by
 intro pins s σ H vs us Q I r h
 obtain ⟨e, h⟩ := h
 subst e
 cases r
 exact assignInOrder_nil ⟨σ, H, I, h⟩
theorem pgs_cons {e : Expr} {es : List Expr} {t : TG} {u : TGs} (h1 : PG X e t) (h2 : PGs X es u)
  (hs : (assignEach (e :: es) X.env).map (·.2) = assign e X.env :: (assignEach es X.env).map (·.2) := by rfl) : PGs X (e :: es) (gCons t u) := by
 intro pins s σ H vs us Q I r h
 obtain ⟨v, vr, e1, h⟩ := h
 subst e1
 cases r with
 | cons r rr =>
  rw [hs]
  refine assignInOrder_cons (thn (h1 pins s σ H _ _ _ I r h) fun _ s1 hpat => ?_)
  obtain ⟨σ1, H1, I1, q1⟩ := hpat
  exact h2 pins s1 σ1 H1 _ _ Q I1 rr q1
def gTup (K : W.Frag) (n : Nat) (t : TGs) : TG := fun v σ H Q => ∃ a xs, v = .ref a /\ SqT K H a xs /\ xs.length = n /\ t xs σ H Q
theorem pg_tup {es : List Expr} {k : Nat} {t : TGs} {n : Nat} (hc : X.calm = true) (h : PGs X es t)
  (hn : (assignEach es X.env).length = n := by rfl) (hst : (assignEach es X.env).findIdx? (·.1) = none := by rfl) : PG X (.Tuple es k pos) (gTup X.K n t) := by
 intro pins s σ H v u Q I r hw
 obtain ⟨a, xs, e1, hq, hl, hw⟩ := hw
 subst e1
 cases r
 obtain ⟨its, rv, ht, hz⟩ := I.tuple hq
 refine assign_Tuple_tuple (I.ok.hd hc) ht (by simp [hn, <- hl, rv.length]) hst fun h' hx => ?_
 have I1 : Inv X pins σ H { s with heap := h' } := I.kept (t' := s.toks) fun b o e => hx b o (Nat.ne_of_lt (Heap.lt_size e)) e
 exact h pins _ σ H xs _ Q I1 (by simpa using rv) hw
def gSub (to ti : TE) (t : TSet) : TG := fun v σ H Q => to σ H fun o H1 => ti σ H1 fun i H2 => t o i v H2 fun H3 => Q σ H3
theorem pg_sub {o i : Expr} {to ti : TE} {t : TSet} (ho : PE X o to) (hi : PE X i ti) (hs : PSet X t)
  (ha : ∀ v, assign (.Subscript o i pos) X.env v = (do
   let ov ← holding [v] (eval o X.env)
   let iv ← holding [v, ov] (eval i X.env)
   standAt pos
   holding [v, ov, iv] (setItem ov iv v)
   release [v, ov, iv] []) := by intro _; rfl) : PG X (.Subscript o i pos) (gSub to ti t) := by
 intro pins s σ H v u Q I r h
 rw [ha]
 refine wpAny_bind (wpAny_holding (thn (ho pins s σ H _ I h) fun ov s1 hpat => ?_))
 obtain ⟨x, H1, I1, r1, q1⟩ := hpat
 refine wpAny_bind (wpAny_holding (thn (hi pins s1 σ H1 _ I1 q1) fun iv s2 hpat => ?_))
 obtain ⟨y, H2, I2, r2, q2⟩ := hpat
 refine wpAny_bind (wpAny_standAt (wpAny_bind (wpAny_holding (thn (hs pins s2 σ H2 x y v ov iv u _ I2 r1 r2 r q2) fun _ s3 hpat => ?_))))
 obtain ⟨H3, I3, q3⟩ := hpat
 exact wpAny_release ⟨σ, H3, I3, q3⟩
def tAsg (te : TE) (g : TG) : TS := fun D σ H => te σ H fun x H1 => g x σ H1 D.nx
theorem ps_asg {tg e : Expr} {te : TE} {g : TG} (he : PE X e te) (hg : PG X tg g) (hs : swapsWithSole [tg] e pos.line X.env = pure false := by rfl) (hw : swappedStores [tg] e X.env = pure none := by rfl)
  (h1 : (assignEach [tg] X.env).map (·.2) = [assign tg X.env] := by rfl) : PS X (.Assign [tg] e pos) (tAsg te g) := by
 intro pins s σ H D I h
 refine wpAny_Assign_stores (thn (he pins s σ H _ I h) fun v s1 hpat => ?_) hs hw
 obtain ⟨x, H1, I1, r1, q1⟩ := hpat
 rw [h1]
 exact thn (hg pins s1 σ H1 x v _ I1 r1 q1) fun _ s2 q => q
theorem ps_set {i : Nat} {x : Str} {e : Expr} {te : TE} {pos' : Pos} (hN : X.N.Nodup) (hi : X.N[i]? = some x) (hx : Loc X.env.scope x) (he : PE X e te) (hs : swapsWith e (some (.Name x pos')) pos.line X.env = pure false := by rfl) (hf : X.fn x = true \/ X.env.scope.names.lookup x = some .local := by first | exact .inl rfl | exact .inr rfl | assumption) :
  PS X (.Assign [.Name x pos'] e pos) (tAsg te (gName i)) := by
 intro pins s σ H D I h
 refine wpAny_Assign_Name (thn (he pins s σ H _ I h) fun v s1 hpat => ?_) hs
 obtain ⟨y, H1, I1, r1, q1⟩ := hpat
 exact store_ok I1 hN hi hx r1 (fun s2 I2 => ⟨_, H1, I2, q1⟩) hf
def tAug (i : Nat) (te : TE) (ti : TIp) : TS := fun D σ H => ∃ x, σ[i]? = some (some x) /\ te σ H fun y H1 => ti x y H1 fun z H2 => D.nx (σ.set i (some z)) H2
theorem ps_aug {i : Nat} {x : Str} {e : Expr} {te : TE} {op : Operator} {ti : TIp} {pos' : Pos} (hN : X.N.Nodup) (hi : X.N[i]? = some x) (hx : Loc X.env.scope x) (he : PE X e te) (ho : PIp X op ti) (hf : X.fn x = true \/ X.env.scope.names.lookup x = some .local := by first | exact .inl rfl | exact .inr rfl | assumption) :
  PS X (.AugAssign (.Name x pos') op e pos) (tAug i te ti) := by
 intro pins s σ H D I h
 obtain ⟨v, e1, h⟩ := h
 obtain ⟨m, hn, hl⟩ := I.loc
 have vis : Vis X.env.scope x := by rcases hx with k | k; exact .inl k; exact .inr (.inl k)
 obtain ⟨u, r, l⟩ := hl i x v hi e1 vis
 refine wpAny_AugAssign_Name ?_
 have go : wpAny (model X.prog X.w) X.A (eval e X.env) (fun w s₂ => wpAny (model X.prog X.w) X.A (inplaceOp op u w) (fun r s₃ => wpAny (model X.prog X.w) X.A (storeName X.env x r) (fun _ => SP X pins D .next) X.xe s₃) X.xe s₂) X.xe s := by
  refine thn (he pins s σ H _ I h) fun w s1 hpat => ?_
  obtain ⟨y, H1, I1, r1, q1⟩ := hpat
  refine thn (ho pins s1 σ H1 v y u w _ I1 r r1 q1) fun z s2 hpat => ?_
  obtain ⟨zv, H2, I2, r2, q2⟩ := hpat
  exact store_ok I2 hN hi hx r2 (fun s3 I3 => ⟨_, H2, I3, q2⟩) hf
 rcases l with ⟨hk, hm⟩ | ⟨hk, c, hc, hcell⟩
 ·exact wpAny_loadName_local I.ok.kind hk hn hm go
 ·rcases hk with hk | hk
  ·exact wpAny_loadName_cell I.ok.kind hk hc hcell go
  ·rcases hx with k | k
   ·have : X.env.scope.names.lookup x = some .free := hk
    rw [k] at this; cases this
   ·have : X.env.scope.names.lookup x = some .free := hk
    rw [k] at this; cases this
def ipI (f : Int -> Int -> Int) : TIp := fun x y H Q => ∃ i j, x = .int i /\ y = .int j /\ Q (.int (f i j)) H
theorem ip_add : PIp X .Add (ipI fun i j => i + j) := by
 intro pins s σ H x y v u Q I r1 r2 h
 obtain ⟨i, j, e1, e2, q⟩ := h
 subst e1; subst e2
 obtain ⟨t, rfl⟩ := r1
 obtain ⟨t', rfl⟩ := r2
 exact iadd_int ⟨.int _, H, I.tok _, ⟨_, rfl⟩, q⟩
end
section
variable {X : Cx} {pos : Pos}
end
structure It where
 go : Nat -> Hp -> Prop
 yld : Nat -> Hp -> V -> Hp -> Prop
 stop : Nat -> Hp -> Prop
def FpOk (X : Cx) (pins : List (Addr × Obj)) (H : Hp) (b : Addr) : Prop :=
 H b = none /\ b ≠ X.env.locals /\ b ∉ X.fs /\ (b ∈ X.ex \/ X.s₀.heap.objs.size <= b) /\ (∀ x c, X.env.cells.lookup x = some c -> c ≠ b) /\ ∀ p ∈ X.pn ++ pins, p.1 ≠ b
theorem Inv.fpOk {X : Cx} {pins : List (Addr × Obj)} {σ : St} {H H' : Hp} {s : Shared} {b : Addr} (I : Inv X pins σ H s) (hb : s.heap.objs.size <= b) (hn : H' b = none) : FpOk X pins H' b := by
 refine ⟨hn, Nat.ne_of_gt (Nat.lt_of_lt_of_le I.lt hb), I.nofs hb, .inr (Nat.le_trans I.sz hb), fun x c e z => ?_, fun p hp z => ?_⟩
 ·obtain ⟨v, q⟩ := I.cell x c e
  exact absurd (Nat.lt_of_lt_of_le q.lt (by rw [z]; exact hb)) (Nat.lt_irrefl _)
 ·exact absurd (Nat.lt_of_lt_of_le (Heap.lt_size (I.pin p hp).1) (by rw [z]; exact hb)) (Nat.lt_irrefl _)
structure Turn (P : Program) (w : World) (K : W.Frag) (tg : Expr) (J : It) (fp : List Addr) (it : Addr) (tn : Nat -> Heap -> Prop) : Prop where
 mem : it ∈ fp
 obj : ∀ i h, tn i h -> ∀ b ∈ fp, ∃ o, h.get? b = some o /\ ∀ v, o.data ≠ .cell v
 keep : ∀ i h h', tn i h -> (∀ b ∈ fp, ∀ o, h.get? b = some o -> h'.get? b = some o) -> tn i h'
 item : ∀ (X : Cx), X.prog = P -> X.w = w -> X.K = K -> X.calm = true -> ∀ (i : Nat) (pins : List (Addr × Obj)) (s : Shared) (σ : St) (H : Hp) (E : Value -> Shared -> Prop), Inv X pins σ H s -> (∀ b ∈ fp, FpOk X pins H b) -> tn i s.heap -> J.go i H ->
  wpAny (model P w) X.A (pyNext (.ref it)) (fun r s1 => ∃ u, r = some u /\
   wpAny (model P w) X.A (letOwnedTupleGo tg (.ref it) u) (fun _ s2 => ∃ x H', Inv X pins σ H' s2 /\ RelV x u /\ J.yld i H x H' /\ tn (i + 1) s2.heap /\ ∀ b ∈ fp, H' b = none) E s1) E s
 done : ∀ (X : Cx), X.prog = P -> X.w = w -> X.K = K -> X.calm = true -> ∀ (i : Nat) (pins : List (Addr × Obj)) (s : Shared) (σ : St) (H : Hp) (E : Value -> Shared -> Prop), Inv X pins σ H s -> (∀ b ∈ fp, FpOk X pins H b) -> tn i s.heap -> J.stop i H ->
  wpAny (model P w) X.A (pyNext (.ref it)) (fun r s1 => r = none /\ Inv X pins σ H s1) E s
 self : ∀ (A : Around) (i : Nat) (s : Shared) (Q : Value -> Shared -> Prop) (E : Value -> Shared -> Prop), tn i s.heap -> Q (.ref it) s -> wpAny (model P w) A (pyIter (.ref it)) Q E s
abbrev TI := St -> Hp -> (It -> Hp -> Prop) -> Prop
def PIE (X : Cx) (pins : List (Addr × Obj)) (σ : St) (tg : Expr) (R : It -> Hp -> Prop) (itv : Value) (s2 : Shared) : Prop :=
 ∃ (it : Addr) (fp : List Addr) (tn : Nat -> Heap -> Prop) (J : It) (H' : Hp), itv = .ref it /\ Inv X pins σ H' s2 /\ Turn X.prog X.w X.K tg J fp it tn /\ tn 0 s2.heap /\ (∀ b ∈ fp, FpOk X pins H' b) /\ R J H'
def PI (X : Cx) (tg iter : Expr) (wi : TI) : Prop :=
 ∀ (pins : List (Addr × Obj)) (s : Shared) (σ : St) (H : Hp) (R : It -> Hp -> Prop), Inv X pins σ H s -> wi σ H R ->
  wpAny (model X.prog X.w) X.A (eval iter X.env) (fun v s1 => wpAny (model X.prog X.w) X.A (pyIter v) (PIE X pins σ tg R) X.xe s1) X.xe s
theorem go_of {M : Model} {A : Around} {E : Value -> Shared -> Prop} {s : Shared} {tg : Expr} {it : Addr} {u : Value} {o : Obj} {n : String} {vs : Array Value} {Q : Unit -> Shared -> Prop} (ho : s.heap.get? it = some o) (hc : o.cls = .type n) (hd : o.data = .fields vs)
  (hn : ["enumerate", "zip", "dict_itemiterator", "dict_reverseitemiterator", "odict_iterator", "itertools.zip_longest", "itertools.pairwise"].contains n = false) (hQ : Q () s) : wpAny M A (letOwnedTupleGo tg (.ref it) u) Q E s := by
 unfold letOwnedTupleGo
 cases tg <;> first
  | exact wpAny_pure hQ
  | (cases u <;> first
    | exact wpAny_pure hQ
    | (refine wpAny_bind (wpAny_load ho ?_)
       rw [hc, hd]
       show wpAny M A (if (["enumerate", "zip", "dict_itemiterator", "dict_reverseitemiterator", "odict_iterator", "itertools.zip_longest", "itertools.pairwise"].contains n && vs[0]? == some (rawInt _)) = true then _ else _) Q E s
       rw [if_neg (by intro h; rw [hn, Bool.false_and] at h; cases h)]
       exact wpAny_pure hQ))
def Itl (K : W.Frag) (a : Addr) : It :=
 ⟨fun i H => ∃ xs x, SqL K H a xs /\ xs[i]? = some x, fun i H x H' => H' = H /\ ∀ xs, SqL K H a xs -> xs[i]? = some x, fun i H => ∃ xs, SqL K H a xs /\ xs.length <= i⟩
def Itr (lo : Int) (n : Nat) : It := ⟨fun i _ => i < n, fun i H x H' => H' = H /\ x = .int (lo + i), fun i _ => n <= i⟩
theorem turn_list {P : Program} {w : World} {K : W.Frag} {tg : Expr} (a it : Addr) : Turn P w K tg (Itl K a) [it] it (fun i h => h.IsListIter it a i) where
 mem := by simp
 obj := fun i h st b hb => by
  have e : b = it := by simpa using hb
  subst e
  obtain ⟨o, e, c, d⟩ := st
  exact ⟨o, e, fun v z => by rw [d] at z; cases z⟩
 keep := fun i h h' st k => st.at fun o e => k it (by simp) o e
 item := by
  intro X hP hw hK hc i pins s σ H E I hf st hg
  subst hP hw hK
  obtain ⟨xs, x, hq, hx⟩ := hg
  obtain ⟨its, rv, p, hz⟩ := I.list hq
  obtain ⟨u, hu, ru⟩ := rv.get hx
  obtain ⟨f0, f1, f2, f3, f4, f5⟩ := hf it (by simp)
  refine wpAny_pyNext_list_item st p.isList (x := u) (by simpa using hu) fun h' st' sb => ?_
  have I1 : Inv X pins σ H { s with heap := h' } := I.turned (t' := s.toks) (fun b o hb e => (sb.2 b hb).trans e) f0 f1 f3 f4 f5
  obtain ⟨o, e, c, d⟩ := id st'
  exact ⟨u, rfl, go_of (s := { s with heap := h' }) e c d (by decide) ⟨x, H, I1, ru, ⟨rfl, fun ys hy => by rw [I.list_inj hy hq]; exact hx⟩, st', fun b hb => (hf b hb).1⟩⟩
 done := by
  intro X hP hw hK hc i pins s σ H E I hf st hg
  subst hP hw hK
  obtain ⟨xs, hq, hx⟩ := hg
  obtain ⟨its, rv, p, hz⟩ := I.list hq
  obtain ⟨f0, f1, f2, f3, f4, f5⟩ := hf it (by simp)
  have hl := rv.length
  exact wpAny_pyNext_list_end (I.ok.hd hc) st p.isList (by simp; omega) fun h' eb => ⟨rfl, I.turned (t' := s.toks) (fun b o hb e => eb b o hb e) f0 f1 f3 f4 f5⟩
 self := fun _ _ _ _ _ st h => wpAny_pyIter_listiter st h
theorem turn_range {P : Program} {w : World} {K : PySem.W.Frag} {tg : Expr} (it : Addr) (lo : Int) (n : Nat) : Turn P w K tg (Itr lo n) [it] it (fun i h => IsRangeIter h it (lo + (i : Nat) * 1) ((n : Int) - (i : Nat)) 1) where
 mem := by simp
 obj := fun i h st b hb => by
  have e : b = it := by simpa using hb
  subst e
  exact ⟨_, st, fun v z => by
   have z' : Data.fields _ = Data.cell v := z
   cases z'⟩
 keep := fun i h h' st k => k it (by simp) _ st
 item := by
  intro X hP hw hK hc i pins s σ H E I hf st hg
  subst hP hw hK
  obtain ⟨f0, f1, f2, f3, f4, f5⟩ := hf it (by simp)
  have W := Walks.range (prog := X.prog) (w := X.w) (I.ok.hd hc) it lo 1 n
  refine W.item i s _ _ hg st fun v h' tk hv st' kk => ?_
  obtain ⟨t, rfl⟩ := hv
  have I1 : Inv X pins σ H { s with heap := h', toks := tk } := I.turned (fun b o hb e => kk b o (by simpa using hb) e) f0 f1 f3 f4 f5
  refine ⟨_, rfl, go_of (s := { s with heap := h', toks := tk }) (n := "range_iterator") st' rfl rfl (by decide) ⟨.int (lo + i), H, I1, ⟨t, ?_⟩, ⟨rfl, rfl⟩, st', fun b hb => (hf b hb).1⟩⟩
  rw [Int.mul_one]
 done := by
  intro X hP hw hK hc i pins s σ H E I hf st hg
  subst hP hw hK
  obtain ⟨f0, f1, f2, f3, f4, f5⟩ := hf it (by simp)
  exact wpAny_pyNext_range_end (I.ok.hd hc) st (by have : n <= i := hg; omega) fun h' eb => ⟨rfl, I.turned (t' := s.toks) (fun b o hb e => eb b o hb e) f0 f1 f3 f4 f5⟩
 self := fun _ _ _ _ _ st h => wpAny_pyIter_rangeiter st h
end
section
section
variable {X : Cx} {tg : Expr}
def iList (K : W.Frag) (tl : TE) : TI := fun σ H R => tl σ H fun x H1 => ∃ a, x = .ref a /\ (∃ xs, SqL K H1 a xs) /\ R (Itl K a) H1
theorem pi_list {l : Expr} {tl : TE} (hl : PE X l tl) : PI X tg l (iList X.K tl) := by
 intro pins s σ H R I h
 refine thn (hl pins s σ H _ I h) fun v s1 hpat => ?_
 obtain ⟨x, H1, I1, r1, q1⟩ := hpat
 obtain ⟨a, e, ⟨xs, hq⟩, q⟩ := q1
 subst e
 cases r1
 obtain ⟨its, rv, p, hz⟩ := I1.list hq
 refine wpAny_pyIter_list p.isList ?_
 refine ⟨s1.heap.objs.size, [s1.heap.objs.size], _, _, H1, rfl, I1.kept (t' := s1.toks) fun b o e => Heap.get?_push_of_some _ e, turn_list a _, ⟨_, Heap.get?_push_size _ rfl, rfl, rfl⟩, fun b hb => ?_, q⟩
 have e : b = s1.heap.objs.size := by simpa using hb
 subst e
 exact I1.fpOk (Nat.le_refl _) (I1.hok.fresh (Nat.le_refl _))
theorem range_it {pins : List (Addr × Obj)} {σ : St} {H : Hp} {s : Shared} {R : It -> Hp -> Prop} {E : Value -> Shared -> Prop} {lo hi : Int} {t u v : Tok} {tk : Nat} (I : Inv X pins σ H s) (h1 : -(2 ^ 62) <= lo) (h2 : lo < 2 ^ 62) (h3 : -(2 ^ 62) <= hi) (h4 : hi < 2 ^ 62)
  (q : R (Itr lo (hi - lo).toNat) H) : wpAny (model X.prog X.w) X.A (pyIter (.ref s.heap.objs.size)) (PIE X pins σ tg R) E { s with heap := s.heap.push { cls := .type "range", data := .fields #[.int lo t, .int hi u, .int 1 v] }, toks := tk } := by
 refine wpAny_pyIter_range (IsRange.new ..) (small_one h1 h2 h3 h4) ?_
 have I1 : Inv X pins σ H { s with heap := s.heap.push { cls := .type "range", data := .fields #[.int lo t, .int hi u, .int 1 v] }, toks := tk } := I.kept fun b o e => Heap.get?_push_of_some _ e
 refine ⟨(s.heap.push { cls := .type "range", data := .fields #[.int lo t, .int hi u, .int 1 v] }).objs.size, [(s.heap.push { cls := .type "range", data := .fields #[.int lo t, .int hi u, .int 1 v] }).objs.size], _, _, H, rfl,
  I1.kept (t' := tk) fun b o e => Heap.get?_push_of_some _ e, turn_range _ lo (hi - lo).toNat, ?_, fun b hb => ?_, q⟩
 ·have e1 : lo + ((0 : Nat) : Int) * 1 = lo := by simp
  have e2 : (((hi - lo).toNat : Nat) : Int) - ((0 : Nat) : Int) = Builtin.Range.rangeSize lo hi 1 := by rw [rangeSize_one]; split <;> omega
  show IsRangeIter _ _ (lo + ((0 : Nat) : Int) * 1) ((((hi - lo).toNat : Nat) : Int) - ((0 : Nat) : Int)) 1
  rw [e1, e2]
  exact Heap.get?_push_size _ rfl
 ·have e : b = (s.heap.push { cls := .type "range", data := .fields #[.int lo t, .int hi u, .int 1 v] }).objs.size := by simpa using hb
  subst e
  exact I1.fpOk (Nat.le_refl _) (I1.hok.fresh (Nat.le_refl _))
def iRng1 (ta : TA) : TI := fun σ H R => ta σ H fun vs H1 => ∃ j : Int, vs = [.int j] /\ -(2 ^ 62) <= j /\ j < 2 ^ 62 /\ R (Itr 0 j.toNat) H1
theorem pi_range1 {a : Expr} {ta : TA} {p pos : Pos} (hg : Gl X "range") (hm : X.mg "range" = none) (ha : PA X [a] ta) (hs : starEach [a] X.env = [(false, eval a X.env)] := by rfl) : PI X tg (.Call (.Name "range" p) [a] [] pos) (iRng1 ta) := by
 intro pins s σ H R I h
 refine Call_ (ld_blt I hg hm boot_range (PyProof.Rows.callWith_type1 (thn (ha pos pins s σ H _ I h) fun us s1 hpat => ?_) hs rfl))
 obtain ⟨vs, H1, I1, r1, q1⟩ := hpat
 obtain ⟨j, e, q1, q2, q⟩ := q1
 subst e
 cases r1 with
 | cons r rr =>
  cases rr
  obtain ⟨t, rfl⟩ := r
  exact call_range_1 (range_it I1 (by omega) (by omega) q1 q2 (by simpa using q))
def tFor (wi : TI) (g : TG) (tb : TS) : TS := fun D σ H => wi σ H fun J H1 => ∃ W : Nat -> Nat -> St -> Hp -> Prop, (∃ m, W 0 m σ H1) /\ ∀ i m σ H, W i m σ H ->
 (J.stop i H /\ D.nx σ H) \/ (J.go i H /\ ∃ N : St -> Hp -> Prop, (∀ σ' H', N σ' H' -> ∃ m', m' < m /\ W (i + 1) m' σ' H') /\ ∀ x H', J.yld i H x H' -> g x σ H' fun σ2 H2 => tb { D with nx := N, ct := N, bk := D.nx } σ2 H2)
def pinsAt (fp : List Addr) (h : Heap) : List (Addr × Obj) := fp.filterMap fun b => (h.get? b).map fun o => (b, o)
theorem mem_pinsAt {fp : List Addr} {h : Heap} {b : Addr} {o : Obj} (hb : b ∈ fp) (e : h.get? b = some o) : (b, o) ∈ pinsAt fp h := List.mem_filterMap.mpr ⟨b, hb, by rw [e]; rfl⟩
theorem of_pinsAt {fp : List Addr} {h : Heap} {p : Addr × Obj} (hp : p ∈ pinsAt fp h) : p.1 ∈ fp /\ h.get? p.1 = some p.2 := by
 obtain ⟨b, hb, e⟩ := List.mem_filterMap.mp hp
 cases q : h.get? b with
 | none => rw [q] at e; cases e
 | some o =>
  rw [q] at e
  have e' : (b, o) = p := Option.some.inj e
  subst e'
  exact ⟨hb, q⟩
theorem Inv.pinned {pins : List (Addr × Obj)} {σ : St} {H : Hp} {s : Shared} {fp : List Addr} (I : Inv X pins σ H s) (hf : ∀ b ∈ fp, FpOk X pins H b) (ho : ∀ b ∈ fp, ∃ o, s.heap.get? b = some o /\ ∀ v, o.data ≠ .cell v) : Inv X (pins ++ pinsAt fp s.heap) σ H s :=
 I.pins_of fun p hp => (List.mem_append.mp hp).elim (fun z => I.pin p (mem_append_right _ z)) fun z => by
  obtain ⟨hb, e⟩ := of_pinsAt z
  obtain ⟨f0, f1, f2, _⟩ := hf p.1 hb
  obtain ⟨o, e', d⟩ := ho p.1 hb
  rw [e] at e'; cases e'
  exact ⟨e, f0, f1, f2, d⟩
theorem Inv.unpinned {pins pl : List (Addr × Obj)} {σ : St} {H : Hp} {s : Shared} (I : Inv X (pins ++ pl) σ H s) : Inv X pins σ H s := I.pins_of fun p hp => I.pin p (mem_append_right _ (mem_append_left _ hp))
theorem ps_for {iter : Expr} {body : List Stmt} {wi : TI} {g : TG} {tb : TS} {pos : Pos} (hp : PassesOwn (model X.prog X.w) X.A X.env X.xe) (hc : X.calm = true) (hi : PI X tg iter wi) (hg : PG X tg g) (hb : PSs X body tb)
  (hs : ∀ x, foldedSetIterable iter X.env x = pure x := by intro _; rfl) : PS X (.For tg iter body [] pos) (tFor wi g tb) := by
 intro pins s σ H D I h
 refine wpAny_For (thn (hi pins s σ H _ I h) fun v s1 h1 => thn h1 fun itv s2 h2 => ?_) hs
 obtain ⟨it, fp, tn, J, H2, e, I2, T, st2, f2, W, ⟨m0, w0⟩, turn⟩ := h2
 subst e
 have stat : ∀ {H' : Hp}, (∀ b ∈ fp, H' b = none) -> ∀ b ∈ fp, FpOk X pins H' b := fun hn b hb => ⟨hn b hb, (f2 b hb).2⟩
 refine codeAny_forLoop_any (fun n s' => ∃ i σ' H', Inv X pins σ' H' s' /\ tn i s'.heap /\ (∀ b ∈ fp, H' b = none) /\ W i n σ' H') ?_ m0 ⟨0, σ, H2, I2, st2, fun b hb => (f2 b hb).1, w0⟩
 rintro n s3 ⟨i, σ3, H3, I3, st3, fr3, w3⟩
 rcases turn i n σ3 H3 w3 with ⟨stop, qn⟩ | ⟨go, N, hN, step⟩
 ·refine wpAny_passesOwn hp (thn (T.done X rfl rfl rfl hc i pins s3 σ3 H3 X.xe I3 (stat fr3) st3 stop) fun r s4 ⟨hr, I4⟩ => ?_)
  subst hr
  exact wpAny_execs_nil ⟨σ3, H3, I4, qn⟩
 ·refine wpAny_passesOwn hp (thn (T.item X rfl rfl rfl hc i pins s3 σ3 H3 X.xe I3 (stat fr3) st3 go) fun r s4 ⟨u, hr, h4⟩ => ?_)
  subst hr
  refine wpAny_passesOwn hp (thn h4 fun _ s5 hpat => ?_)
  obtain ⟨x, H5, I5, r5, y5, st5, fr5⟩ := hpat
  have I5' := I5.pinned (stat fr5) (T.obj _ _ st5)
  refine wpAny_passesOwn hp (thn (hg _ s5 σ3 H5 x u _ I5' r5 (step x H5 y5)) fun _ s6 hpat => ?_)
  obtain ⟨σ6, H6, I6, q6⟩ := hpat
  refine wpAny_passesOwn hp (thn (hb _ s6 σ6 H6 _ I6 q6) fun f s7 q7 => ?_)
  have again : ∀ {σ7 : St} {H7 : Hp}, Inv X (pins ++ pinsAt fp s5.heap) σ7 H7 s7 -> N σ7 H7 -> ∃ m, m < n /\ ∃ i σ' H', Inv X pins σ' H' s7 /\ tn i s7.heap /\ (∀ b ∈ fp, H' b = none) /\ W i m σ' H' := fun {σ7 H7} I7 n7 => by
   obtain ⟨m', hm, w7⟩ := hN σ7 H7 n7
   refine ⟨m', hm, i + 1, σ7, H7, I7.unpinned, T.keep _ _ _ st5 fun b hb o e => (I7.pin (b, o) (mem_append_right _ (mem_append_right _ (mem_pinsAt hb e)))).1, fun b hb => ?_, w7⟩
   obtain ⟨o, e, d⟩ := T.obj _ _ st5 b hb
   exact (I7.pin (b, o) (mem_append_right _ (mem_append_right _ (mem_pinsAt hb e)))).2.1
  cases f with
  | next => obtain ⟨σ7, H7, I7, n7⟩ := q7; exact again I7 n7
  | cont => obtain ⟨σ7, H7, I7, n7⟩ := q7; exact again I7 n7
  | brk => obtain ⟨σ7, H7, I7, q7⟩ := q7; exact ⟨σ7, H7, I7.unpinned, q7⟩
  | ret v => obtain ⟨x7, σ7, H7, I7, r7, q7⟩ := q7; exact ⟨x7, σ7, H7, I7.unpinned, r7, q7⟩
end
end
section
abbrev R2 := V -> V -> Hp -> VK -> Prop
def OpR (X : Cx) (f : Value -> Value -> Sem Value) (r : R2) : Prop :=
 ∀ (pins : List (Addr × Obj)) (s : Shared) (σ : St) (H : Hp) (x y : V) (v u : Value) (Q : VK), Inv X pins σ H s -> RelV x v -> RelV y u -> r x y H Q ->
  wpAny (model X.prog X.w) X.A (f v u) (EP X pins σ Q) X.xe s
def UnR (X : Cx) (f : Value -> Sem Value) (r : V -> Hp -> VK -> Prop) : Prop :=
 ∀ (pins : List (Addr × Obj)) (s : Shared) (σ : St) (H : Hp) (x : V) (v : Value) (Q : VK), Inv X pins σ H s -> RelV x v -> r x H Q ->
  wpAny (model X.prog X.w) X.A (f v) (EP X pins σ Q) X.xe s
def CallR (X : Cx) (f : Value) (r : List V -> Hp -> VK -> Prop) : Prop :=
 ∀ (pins : List (Addr × Obj)) (s : Shared) (σ : St) (H : Hp) (xs : List V) (us : List Value) (Q : VK), Inv X pins σ H s -> Vals xs us -> r xs H Q ->
  wpAny (model X.prog X.w) X.A (call f us) (EP X pins σ Q) X.xe s
def TruR (X : Cx) (r : V -> Hp -> (Bool -> Hp -> Prop) -> Prop) : Prop :=
 ∀ (pins : List (Addr × Obj)) (s : Shared) (σ : St) (H : Hp) (x : V) (v : Value) (Q : Bool -> Hp -> Prop), Inv X pins σ H s -> RelV x v -> r x H Q ->
  wpAny (model X.prog X.w) X.A (truthy v) (TP X pins σ Q) X.xe s
def tOp (r : R2) (ta tb : TE) : TE := fun σ H Q => ta σ H fun x H1 => tb σ H1 fun y H2 => r x y H2 Q
def tUn (r : V -> Hp -> VK -> Prop) (ta : TE) : TE := fun σ H Q => ta σ H fun x H1 => r x H1 Q
def rI (C : Int -> Int -> Prop) (g : Int -> Int -> V) : R2 := fun x y H Q => ∃ i j, x = .int i /\ y = .int j /\ C i j /\ Q (g i j) H
def rI0 (g : Int -> Int -> V) : R2 := fun x y H Q => ∃ i j, x = .int i /\ y = .int j /\ Q (g i j) H
def rU (g : Int -> V) : V -> Hp -> VK -> Prop := fun x H Q => ∃ i, x = .int i /\ Q (g i) H
section
variable {X : Cx} {a b c : Expr} {ta tb tc : TE} {pos : Pos}
theorem binT (ha : PE X a ta) (hb : PE X b tb) {pins : List (Addr × Obj)} {s : Shared} {σ : St} {H : Hp} {R : V -> V -> Hp -> Prop} (I : Inv X pins σ H s)
  (h : ta σ H fun x H1 => tb σ H1 fun y H2 => R x y H2) {Q : Value -> Shared -> Prop} {f : Value -> Value -> Sem Value}
  (hf : ∀ v u s2 x y H2, Inv X pins σ H2 s2 -> RelV x v -> RelV y u -> R x y H2 -> wpAny (model X.prog X.w) X.A (f v u) Q X.xe s2) :
  wpAny (model X.prog X.w) X.A (eval a X.env) (fun v s₁ => wpAny (model X.prog X.w) X.A (eval b X.env) (fun u s₂ => wpAny (model X.prog X.w) X.A (f v u) Q X.xe s₂) X.xe s₁) X.xe s := by
 refine thn (ha pins s σ H _ I h) fun v s1 hpat => ?_
 obtain ⟨x, H1, I1, r1, q1⟩ := hpat
 refine thn (hb pins s1 σ H1 _ I1 q1) fun u s2 hpat => ?_
 obtain ⟨y, H2, I2, r2, q2⟩ := hpat
 exact hf v u s2 x y H2 I2 r1 r2 q2
theorem pe_op {op : Operator} {r : R2} (ho : OpR X (binaryOp op) r) (ha : PE X a ta) (hb : PE X b tb) : PE X (.BinOp a op b pos) (tOp r ta tb) := by
 intro pins s σ H Q I h
 exact wpAny_BinOp (binT ha hb I h fun v u s2 x y H2 I2 rx ry q => ho pins s2 σ H2 x y v u Q I2 rx ry q)
theorem pe_un {op : UnaryOp} {r : V -> Hp -> VK -> Prop} (ho : UnR X (unaryOp op) r) (ha : PE X a ta) : PE X (.UnaryOp op a pos) (tUn r ta) := by
 intro pins s σ H Q I h
 exact UnaryOp_ (thn (ha pins s σ H _ I h) fun v s1 ⟨x, H1, I1, r1, q1⟩ => ho pins s1 σ H1 x v Q I1 r1 q1)
theorem opI {f : Value -> Value -> Sem Value} {C : Int -> Int -> Prop} {g : Int -> Int -> Int}
  (rule : ∀ (i j : Int) (t u : Tok) (s : Shared) (Q : Value -> Shared -> Prop) (E : Value -> Shared -> Prop), C i j -> Q (.int (g i j) s.toks) { s with toks := s.toks + 1 } -> wpAny (model X.prog X.w) X.A (f (.int i t) (.int j u)) Q E s) :
  OpR X f (rI C fun i j => .int (g i j)) := by
 intro pins s σ H x y v u Q I rx ry h
 obtain ⟨i, j, rfl, rfl, hc, q⟩ := h
 obtain ⟨t, rfl⟩ := rx
 obtain ⟨t', rfl⟩ := ry
 exact rule i j t t' s _ _ hc ⟨.int (g i j), H, I.tok _, ⟨_, rfl⟩, q⟩
theorem opI0 {f : Value -> Value -> Sem Value} {g : Int -> Int -> Int}
  (rule : ∀ (i j : Int) (t u : Tok) (s : Shared) (Q : Value -> Shared -> Prop) (E : Value -> Shared -> Prop), Q (.int (g i j) s.toks) { s with toks := s.toks + 1 } -> wpAny (model X.prog X.w) X.A (f (.int i t) (.int j u)) Q E s) :
  OpR X f (rI0 fun i j => .int (g i j)) := by
 intro pins s σ H x y v u Q I rx ry h
 obtain ⟨i, j, rfl, rfl, q⟩ := h
 obtain ⟨t, rfl⟩ := rx
 obtain ⟨t', rfl⟩ := ry
 exact rule i j t t' s _ _ ⟨.int (g i j), H, I.tok _, ⟨_, rfl⟩, q⟩
theorem opB0 {f : Value -> Value -> Sem Value} {g : Int -> Int -> Bool}
  (rule : ∀ (i j : Int) (t u : Tok) (s : Shared) (Q : Value -> Shared -> Prop) (E : Value -> Shared -> Prop), Q (.bool (g i j)) s -> wpAny (model X.prog X.w) X.A (f (.int i t) (.int j u)) Q E s) :
  OpR X f (rI0 fun i j => .bl (g i j)) := by
 intro pins s σ H x y v u Q I rx ry h
 obtain ⟨i, j, rfl, rfl, q⟩ := h
 obtain ⟨t, rfl⟩ := rx
 obtain ⟨t', rfl⟩ := ry
 exact rule i j t t' s _ _ ⟨.bl (g i j), H, I, rfl, q⟩
def CDiv (i j : Int) : Prop := 0 < j /\ j < 1073741824
def CPow (i j : Int) : Prop := 0 <= j /\ j <= 1000000 /\ i.natAbs < 2 ^ 64
def CMul (i j : Int) : Prop := (-(2 ^ 64) < i /\ i < 2 ^ 64) \/ (-(2 ^ 64) < j /\ j < 2 ^ 64)
theorem CMul.ok {i j : Int} (h : CMul i j) : IntMulOk i j := by
 rcases h with ⟨h1, h2⟩ | ⟨h1, h2⟩
 ·exact .of_left (intBits_le_64 h1 h2)
 ·exact .of_right (intBits_le_64 h1 h2)
theorem two_pow_nn (k : Nat) : (0 : Int) <= 2 ^ k := by
 rw [two_pow_cast]
 exact Int.natCast_nonneg _
theorem op_add : OpR X (binaryOp .Add) (rI0 fun i j => .int (i + j)) := opI0 fun _ _ _ _ _ _ _ q => add_int q
theorem op_sub : OpR X (binaryOp .Sub) (rI0 fun i j => .int (i - j)) := opI0 fun _ _ _ _ _ _ _ q => sub_int q
theorem op_mul : OpR X (binaryOp .Mult) (rI CMul fun i j => .int (i * j)) := opI fun _ _ _ _ _ _ _ hc q => mul_int q hc.ok
theorem op_fdiv : OpR X (binaryOp .FloorDiv) (rI CDiv fun i j => .int (i / j)) := opI fun i j _ _ _ _ _ hc q => by
 have h1 : (0 : Int) < j := hc.1
 have h2 : j < 1073741824 := hc.2
 exact floordiv_int (by omega) (by rw [Int.fdiv_eq_ediv_of_nonneg i (by omega)]; exact q) (.inl (PyProof.noPylong_small (by omega)))
theorem op_mod : OpR X (binaryOp .Mod) (rI (fun _ j => 0 < j) fun i j => .int (i % j)) := opI fun i j _ _ _ _ _ hc q => by
 have h1 : (0 : Int) < j := hc
 exact mod_int' (by omega) (by rw [Int.fmod_eq_emod_of_nonneg i (by omega)]; exact q)
theorem op_pow : OpR X (binaryOp .Pow) (rI CPow fun i j => .int (i ^ j.toNat)) := opI fun _ _ _ _ _ _ _ hc q => pow_int_small hc.1 hc.2.1 hc.2.2 q
theorem op_shr : OpR X (binaryOp .RShift) (rI (fun _ j => 0 <= j) fun i j => .int (i / 2 ^ j.toNat)) := opI fun i j _ _ _ _ _ hc q =>
 rshift_int hc (by rw [Int.fdiv_eq_ediv_of_nonneg i (two_pow_nn _)]; exact q)
theorem op_and : OpR X (binaryOp .BitAnd) (rI0 fun i j => .int (Builtin.bitAnd i j)) := opI0 fun _ _ _ _ _ _ _ q => and_int q
theorem unI {f : Value -> Sem Value} {g : Int -> Int}
  (rule : ∀ (i : Int) (t : Tok) (s : Shared) (Q : Value -> Shared -> Prop) (E : Value -> Shared -> Prop), Q (.int (g i) s.toks) { s with toks := s.toks + 1 } -> wpAny (model X.prog X.w) X.A (f (.int i t)) Q E s) :
  UnR X f (rU fun i => .int (g i)) := by
 intro pins s σ H x v Q I rx h
 obtain ⟨i, rfl, q⟩ := h
 obtain ⟨t, rfl⟩ := rx
 exact rule i t s _ _ ⟨.int (g i), H, I.tok _, ⟨_, rfl⟩, q⟩
theorem un_neg : UnR X (unaryOp .USub) (rU fun i => .int (-i)) := unI fun _ _ _ _ _ q => neg_int q
end
def scal : V -> V -> Bool
 | .non, .non => true | .non, .int _ => true | .int _, .non => true | .non, .bl _ => true | .bl _, .non => true | .non, .str _ => true | .str _, .non => true
 | .int _, .int _ => true | .bl _, .bl _ => true | .str _, .str _ => true | .byt _, .byt _ => true
 | .int _, .str _ => true | .str _, .int _ => true | .bl _, .str _ => true | .str _, .bl _ => true
 | _, _ => false
def rEq : R2 := fun x y H Q => scal x y = true /\ Q (.bl (decide (x = y))) H
def rNe : R2 := fun x y H Q => scal x y = true /\ Q (.bl (!decide (x = y))) H
theorem dec_int {i j : Int} : decide (V.int i = V.int j) = (i == j) := by
 rw [Bool.eq_iff_iff]
 simp
theorem dec_bl {i j : Bool} : decide (V.bl i = V.bl j) = (i == j) := by
 rw [Bool.eq_iff_iff]
 simp
theorem dec_str {i j : Str} : decide (V.str i = V.str j) = (i == j) := by
 rw [Bool.eq_iff_iff]
 simp
theorem dec_byt {i j : Array UInt8} : decide (V.byt i = V.byt j) = (i.toList == j.toList) := by
 rw [Bool.eq_iff_iff]
 cases i
 cases j
 simp
section
variable {X : Cx} {a b c : Expr} {ta tb tc : TE} {pos : Pos}
theorem fin_bl {pins : List (Addr × Obj)} {σ : St} {H : Hp} {s : Shared} {Q : VK} {k k' : Bool} (I : Inv X pins σ H s) (q : Q (.bl k) H) (e : k = k') : EP X pins σ Q (.bool k') s := by
 subst e
 exact ⟨.bl k, H, I, rfl, q⟩
theorem op_eq : OpR X (compareOp .Eq) rEq := by
 intro pins s σ H x y v u Q I rx ry h
 obtain ⟨hs, q⟩ := h
 cases x with
 | non =>
  cases rx
  cases y with
  | non => cases ry; exact PySem.EqNone.eq_none_none (fin_bl I q (by simp))
  | bl j => cases ry; exact PySem.EqNone.eq_none_bool (fin_bl I q (by simp))
  | int j => obtain ⟨t', rfl⟩ := ry; exact PySem.EqNone.eq_none_int (fin_bl I q (by simp))
  | str j => obtain ⟨t', rfl⟩ := ry; exact PySem.EqNone.eq_none_str (fin_bl I q (by simp))
  | _ => exact absurd (show false = true from hs) Bool.false_ne_true
 | bl i =>
  cases rx
  cases y with
  | non => cases ry; exact PySem.EqNone.eq_bool_none (fin_bl I q (by simp))
  | bl j => cases ry; exact eq_bool (fin_bl I q dec_bl)
  | str j => obtain ⟨t', rfl⟩ := ry; exact PySem.EqMixed.eq_bool_str (fin_bl I q (by simp))
  | _ => exact absurd (show false = true from hs) Bool.false_ne_true
 | int i =>
  obtain ⟨t, rfl⟩ := rx
  cases y with
  | non => cases ry; exact PySem.EqNone.eq_int_none (fin_bl I q (by simp))
  | int j => obtain ⟨t', rfl⟩ := ry; exact eq_int (fin_bl I q dec_int)
  | str j => obtain ⟨t', rfl⟩ := ry; exact PySem.EqMixed.eq_int_str (fin_bl I q (by simp))
  | _ => exact absurd (show false = true from hs) Bool.false_ne_true
 | str i =>
  obtain ⟨t, rfl⟩ := rx
  cases y with
  | non => cases ry; exact PySem.EqNone.eq_str_none (fin_bl I q (by simp))
  | bl j => cases ry; exact PySem.EqMixed.eq_str_bool (fin_bl I q (by simp))
  | int j => obtain ⟨t', rfl⟩ := ry; exact PySem.EqMixed.eq_str_int (fin_bl I q (by simp))
  | str j => obtain ⟨t', rfl⟩ := ry; exact eq_str (fin_bl I q dec_str)
  | _ => exact absurd (show false = true from hs) Bool.false_ne_true
 | byt i =>
  obtain ⟨t, rfl⟩ := rx
  cases y with
  | byt j => obtain ⟨t', rfl⟩ := ry; exact W.eq_bytes (fin_bl I q dec_byt)
  | _ => exact absurd (show false = true from hs) Bool.false_ne_true
 | _ => cases y <;> exact absurd (show false = true from hs) Bool.false_ne_true
theorem op_ne : OpR X (compareOp .NotEq) rNe := by
 intro pins s σ H x y v u Q I rx ry h
 obtain ⟨hs, q⟩ := h
 cases x with
 | non =>
  cases rx
  cases y with
  | non => cases ry; exact PySem.EqNone.ne_none_none (fin_bl I q (by simp))
  | bl j => cases ry; exact PySem.EqNone.ne_none_bool (fin_bl I q (by simp))
  | int j => obtain ⟨t', rfl⟩ := ry; exact PySem.EqNone.ne_none_int (fin_bl I q (by simp))
  | str j => obtain ⟨t', rfl⟩ := ry; exact PySem.EqNone.ne_none_str (fin_bl I q (by simp))
  | _ => exact absurd (show false = true from hs) Bool.false_ne_true
 | bl i =>
  cases rx
  cases y with
  | non => cases ry; exact PySem.EqNone.ne_bool_none (fin_bl I q (by simp))
  | bl j => cases ry; exact ne_bool (fin_bl I q (congrArg not dec_bl))
  | str j => obtain ⟨t', rfl⟩ := ry; exact PySem.EqMixed.ne_bool_str (fin_bl I q (by simp))
  | _ => exact absurd (show false = true from hs) Bool.false_ne_true
 | int i =>
  obtain ⟨t, rfl⟩ := rx
  cases y with
  | non => cases ry; exact PySem.EqNone.ne_int_none (fin_bl I q (by simp))
  | int j => obtain ⟨t', rfl⟩ := ry; exact ne_int (fin_bl I q (congrArg not dec_int))
  | str j => obtain ⟨t', rfl⟩ := ry; exact PySem.EqMixed.ne_int_str (fin_bl I q (by simp))
  | _ => exact absurd (show false = true from hs) Bool.false_ne_true
 | str i =>
  obtain ⟨t, rfl⟩ := rx
  cases y with
  | non => cases ry; exact PySem.EqNone.ne_str_none (fin_bl I q (by simp))
  | bl j => cases ry; exact PySem.EqMixed.ne_str_bool (fin_bl I q (by simp))
  | int j => obtain ⟨t', rfl⟩ := ry; exact PySem.EqMixed.ne_str_int (fin_bl I q (by simp))
  | str j => obtain ⟨t', rfl⟩ := ry; exact ne_str (fin_bl I q (congrArg not dec_str))
  | _ => exact absurd (show false = true from hs) Bool.false_ne_true
 | byt i =>
  obtain ⟨t, rfl⟩ := rx
  cases y with
  | byt j => obtain ⟨t', rfl⟩ := ry; exact W.ne_bytes (fin_bl I q (congrArg not dec_byt))
  | _ => exact absurd (show false = true from hs) Bool.false_ne_true
 | _ => cases y <;> exact absurd (show false = true from hs) Bool.false_ne_true
theorem op_lt : OpR X (compareOp .Lt) (rI0 fun i j => .bl (decide (i < j))) := opB0 fun _ _ _ _ _ _ _ q => lt_int q
theorem op_le : OpR X (compareOp .LtE) (rI0 fun i j => .bl (decide (i <= j))) := opB0 fun _ _ _ _ _ _ _ q => le_int q
theorem op_gt : OpR X (compareOp .Gt) (rI0 fun i j => .bl (decide (j < i))) := opB0 fun _ _ _ _ _ _ _ q => gt_int q
theorem op_ge : OpR X (compareOp .GtE) (rI0 fun i j => .bl (decide (j <= i))) := opB0 fun _ _ _ _ _ _ _ q => ge_int q
theorem OpR.or {f : Value -> Value -> Sem Value} {r r' : R2} (h : OpR X f r) (h' : OpR X f r') : OpR X f (fun x y H Q => r x y H Q \/ r' x y H Q) := by
 intro pins s σ H x y v u Q I rx ry q
 rcases q with q | q
 ·exact h pins s σ H x y v u Q I rx ry q
 ·exact h' pins s σ H x y v u Q I rx ry q
theorem nomark (b : Expr) {op : CmpOp} (h : op ≠ .In := by decide) (h2 : op ≠ .NotIn := by decide) : behindInMarks op b = false := by
 have e1 : (op == CmpOp.In) = false := by cases op <;> first | rfl | exact absurd rfl h
 have e2 : (op == CmpOp.NotIn) = false := by cases op <;> first | rfl | exact absurd rfl h2
 cases b <;> simp [behindInMarks, e1, e2]
theorem pe_cmpR {op : CmpOp} {r : R2} (ho : OpR X (compareOp op) r) (ha : PE X a ta) (hb : PE X b tb) (hm : behindInMarks op b = false) : PE X (.Compare a [op] [b] pos) (tOp r ta tb) := by
 intro pins s σ H Q I h
 exact wpAny_Compare1 (binT ha hb I h fun v u s2 x y H2 I2 rx ry q => ho pins s2 σ H2 x y v u Q I2 rx ry q) hm
def tTest (t : TE) : TT := fun σ H Q => t σ H fun x H' => ∃ k, x = .bl k /\ Q k H'
theorem pt_cmpR {op : CmpOp} {r : R2} (ho : OpR X (compareOp op) r) (ha : PE X a ta) (hb : PE X b tb) (hm : behindInMarks op b = false) : PT X (.Compare a [op] [b] pos) (tTest (tOp r ta tb)) := by
 intro pins s σ H Q I h
 refine wpAny_isTrue_Compare1 (thn (ha pins s σ H _ I h) fun v s1 ⟨x, H1, I1, r1, q1⟩ => thn (hb pins s1 σ H1 _ I1 q1) fun u s2 ⟨y, H2, I2, r2, q2⟩ =>
  thn (ho pins s2 σ H2 x y v u _ I2 r1 r2 q2) fun c s3 ⟨z, H3, I3, r3, k, e, q3⟩ => ?_) hm
 subst e
 cases r3
 exact wpAny_truthy_bool ⟨H3, I3, q3⟩
def tChain (r r' : R2) (ta tb tc : TE) : TE := fun σ H Q => ta σ H fun x H1 => tb σ H1 fun y H2 => r x y H2 fun z H3 => ∃ k, z = .bl k /\
 (if k = true then tc σ H3 fun w' H4 => r' y w' H4 Q else Q (.bl false) H3)
theorem pt_chain {op op' : CmpOp} {r r' : R2} (ho : OpR X (compareOp op) r) (ho' : OpR X (compareOp op') r') (ha : PE X a ta) (hb : PE X b tb) (hc : PE X c tc)
  (hm : lastMarks [op, op'] [b, c] = false := by with_unfolding_all rfl) : PT X (.Compare a [op, op'] [b, c] pos) (tTest (tChain r r' ta tb tc)) := by
 intro pins s σ H Q I h
 refine isTrue_chain (thn (ha pins s σ H _ I h) fun v s1 ⟨x, H1, I1, r1, q1⟩ => test_link (thn (hb pins s1 σ H1 _ I1 q1) fun u s2 ⟨y, H2, I2, r2, q2⟩ =>
  thn (ho pins s2 σ H2 x y v u _ I2 r1 r2 q2) fun d s3 ⟨z, H3, I3, r3, k, e, q3⟩ => ?_)) hm
 subst e
 cases r3
 refine wpAny_truthy_bool ?_
 cases k with
 | false =>
  obtain ⟨k', e', q'⟩ := q3
  cases e'
  exact ite_ff ⟨H3, I3, q'⟩
 | true =>
  refine ite_tt (test_last (thn (hc pins s3 σ H3 _ I3 q3) fun w' s4 ⟨z', H4, I4, r4, q4⟩ => thn (ho' pins s4 σ H4 y z' u w' _ I4 r2 r4 q4) fun d' s5 hpat => ?_))
  obtain ⟨z2, H5, I5, r5, k2, e2, q5⟩ := hpat
  subst e2
  cases r5
  exact wpAny_truthy_bool ⟨H5, I5, q5⟩
def TruV (K : W.Frag) (x : V) (H : Hp) (k : Bool) : Prop :=
 match x with
 | .non => k = false
 | .bl b => k = b
 | .int i => k = (i != 0)
 | .str y => y.length <= sizeLine /\ k = ((y.length : Int) != 0)
 | .byt y => y.size <= sizeLine /\ k = ((y.size : Int) != 0)
 | .ref p => (∃ xs, SqL K H p xs /\ k = !xs.isEmpty) \/ (∃ xs, SqT K H p xs /\ k = !xs.isEmpty) \/ ∃ kvs, H p = some (.dK kvs) /\ k = !kvs.isEmpty
 | _ => False
theorem isEmpty_kv {κ : Type} {kvs : List (κ × V)} {vs : List (κ × Value)} (r : KV kvs vs) : (!vs.isEmpty) = !kvs.isEmpty := by
 cases r <;> rfl
theorem isEmpty_of {xs : List V} {its : List Value} (r : Vals xs its) : (!its.toArray.isEmpty) = !xs.isEmpty := by
 cases r <;> simp
theorem line63 : (sizeLine : Nat) < 2 ^ 63 := by rw [sizeLine_eq]; decide
theorem tru_ok : TruR X (fun x H Q => ∃ k, TruV X.K x H k /\ Q k H) := by
 intro pins s σ H x v Q I rx h
 obtain ⟨k, e, q⟩ := h
 have hl := line63
 have hs : sizeLine = 16777216 := sizeLine_eq
 cases x with
 | non =>
  cases rx
  have e' : k = false := e
  subst e'
  exact truthy_none ⟨H, I, q⟩
 | bl b =>
  cases rx
  have e' : k = b := e
  subst e'
  exact wpAny_truthy_bool ⟨H, I, q⟩
 | int i =>
  obtain ⟨t, rfl⟩ := rx
  have e' : k = (i != 0) := e
  subst e'
  exact PySem.P.truthy_int ⟨H, I, q⟩
 | str y =>
  obtain ⟨t, rfl⟩ := rx
  obtain ⟨hy, e'⟩ : y.length <= sizeLine /\ k = ((y.length : Int) != 0) := e
  subst e'
  exact PySem.P.truthy_str (by omega) ⟨H, I.tok _, q⟩
 | byt y =>
  obtain ⟨t, rfl⟩ := rx
  obtain ⟨hy, e'⟩ : y.size <= sizeLine /\ k = ((y.size : Int) != 0) := e
  subst e'
  exact W.truthy_bytes (by omega) ⟨H, I.tok _, q⟩
 | ref p =>
  cases rx
  have e' : (∃ xs, SqL X.K H p xs /\ k = !xs.isEmpty) \/ (∃ xs, SqT X.K H p xs /\ k = !xs.isEmpty) \/ ∃ kvs, H p = some (.dK kvs) /\ k = !kvs.isEmpty := e
  rcases e' with ⟨xs, hx, e'⟩ | ⟨xs, hx, e'⟩ | ⟨kvs, hx, e'⟩
  ·subst e'
   obtain ⟨its, r, pl, hz⟩ := I.list hx
   have hlen := r.length
   exact wpAny_truthy_list pl.isList (by simp only [size_toArray]; omega) ⟨H, I.tok _, by rw [isEmpty_of r]; exact q⟩
  ·subst e'
   obtain ⟨its, r, pl, hz⟩ := I.tuple hx
   have hlen := r.length
   exact truthy_tuple pl (by simp only [size_toArray]; omega) ⟨H, I.tok _, by rw [isEmpty_of r]; exact q⟩
  ·subst e'
   obtain ⟨hz, hS, vs, r, m⟩ : kvs.length <= sizeLine /\ (p == sysModules) = false /\ ∃ vs, KV kvs vs /\ s.heap.DictOf (mixKind X.prog X.w) p vs := I.hok p _ hx
   have hlen : kvs.length = vs.length := Paired.length r
   exact wpAny_truthy_dict hS m (by omega) ⟨H, I.tok _, by rw [isEmpty_kv r]; exact q⟩
 | _ => exact (show False from e).elim
theorem pt_truth (ha : PE X a ta) (he : ∀ whole, isTrue a X.env whole = (do let v ← whole; standAt a.pos; holding [v] (truthy v))) :
  PT X a (fun σ H Q => ta σ H fun x H' => ∃ k, TruV X.K x H' k /\ Q k H') := by
 intro pins s σ H Q I h
 exact isTrue_plain (thn (ha pins s σ H _ I h) fun v s1 ⟨x, H1, I1, r1, q1⟩ => tru_ok pins s1 σ H1 x v Q I1 r1 q1) (he _)
theorem vals1 {x : V} {us : List Value} (r : Vals [x] us) : ∃ u, us = [u] /\ RelV x u := by
 cases r with
 | cons r1 r2 => cases r2; exact ⟨_, rfl, r1⟩
theorem vals2 {x y : V} {us : List Value} (r : Vals [x, y] us) : ∃ u w', us = [u, w'] /\ RelV x u /\ RelV y w' := by
 cases r with
 | cons r1 r2 =>
  cases r2 with
  | cons r3 r4 => cases r4; exact ⟨_, _, rfl, r1, r3⟩
theorem call_abs : CallR X (.builtin "abs") (fun xs H Q => ∃ i, xs = [.int i] /\ Q (.int (if i < 0 then -i else i)) H) := by
 intro pins s σ H xs us Q I r h
 obtain ⟨i, rfl, q⟩ := h
 obtain ⟨u, rfl, t, rfl⟩ := vals1 r
 exact call_abs_int fun u tk => ⟨.int (if i < 0 then -i else i), H, I.tok _, ⟨_, rfl⟩, q⟩
theorem call_max2 (hc : X.calm = true) : CallR X (.builtin "max") (fun xs H Q => ∃ i j, xs = [.int i, .int j] /\ Q (.int (if j > i then j else i)) H) := by
 intro pins s σ H xs us Q I r h
 obtain ⟨i, j, rfl, q⟩ := h
 obtain ⟨u, w', rfl, ⟨t, rfl⟩, ⟨t', rfl⟩⟩ := vals2 r
 refine max_two_ints (I.ok.hd hc) fun h' tk k => ⟨_, H, I.kept k, ?_, q⟩
 by_cases hj : j > i
 ·rw [if_pos hj, if_pos hj]; exact ⟨_, rfl⟩
 ·rw [if_neg hj, if_neg hj]; exact ⟨_, rfl⟩
theorem call_min2 (hc : X.calm = true) : CallR X (.builtin "min") (fun xs H Q => ∃ i j, xs = [.int i, .int j] /\ Q (.int (if j < i then j else i)) H) := by
 intro pins s σ H xs us Q I r h
 obtain ⟨i, j, rfl, q⟩ := h
 obtain ⟨u, w', rfl, ⟨t, rfl⟩, ⟨t', rfl⟩⟩ := vals2 r
 refine min_two_ints (I.ok.hd hc) fun h' tk k => ⟨_, H, I.kept k, ?_, q⟩
 by_cases hj : j < i
 ·rw [if_pos hj, if_pos hj]; exact ⟨_, rfl⟩
 ·rw [if_neg hj, if_neg hj]; exact ⟨_, rfl⟩
theorem call_int1 : CallR X (.type "int") (fun xs H Q => (∃ i, xs = [.int i] /\ Q (.int i) H) \/ ∃ k, xs = [.bl k] /\ Q (.int (if k then 1 else 0)) H) := by
 intro pins s σ H xs us Q I r h
 rcases h with ⟨i, rfl, q⟩ | ⟨k, rfl, q⟩
 ·obtain ⟨u, rfl, t, rfl⟩ := vals1 r
  exact call_int_int ⟨.int i, H, I, ⟨_, rfl⟩, q⟩
 ·obtain ⟨u, rfl, r1⟩ := vals1 r
  cases r1
  exact call_int_bool ⟨.int (if k then 1 else 0), H, I.tok _, ⟨_, rfl⟩, q⟩
end
end
section
structure ObjM (h : Heap) (x dx C : Addr) (mA : Str -> Option Value) : Prop where
 obj : h.get? x = some (W.instObj C dx)
 ns : h.Ns1 dx mA
 ne : dx ≠ x
section
variable {prog : Program} {w : World} {A : Around} {E : Value -> Shared -> Prop} {s : Shared} {K : W.Frag} {x dx C f : Addr} {mA : Str -> Option Value} {name : Str} {v : Value}
end
def putF (f : Str) (v : V) : List (Str × V) -> List (Str × V)
 | [] => [(f, v)]
 | (g, x) :: r => if g = f then (g, v) :: r else (g, x) :: putF f v r
section
variable {P : Program} {w : World} {H H' : Hp} {h h' : Heap} {a C dx : Addr} {fs fs' : List (Str × V)}
end
structure Cls (K : W.Frag) (C : Addr) : Prop where
 pg : W.plainGet K C Str.empty = true
 hd : W.hasDictIn K C = true
 po : W.plainOver K C = true
 sa : W.findIn K (.ref C) "__setattr__" = some (some (.builtin "object.__setattr__"))
theorem Cls.get {K : W.Frag} {C : Addr} (c : Cls K C) (f : Str) : W.plainGet K C f = true := c.pg
structure Con (K : W.Frag) (C : Addr) (f : Str) (v : V) (u : Value) : Prop where
 at_ : W.findIn K (.ref C) f = some (some u)
 rel : RelV v u
 get : W.specialIn K u "__get__" = some none
 cp : W.copiedNames.contains f = false
structure Meth (K : W.Frag) (C : Addr) (m : Str) (f : Addr) : Prop where
 at_ : W.findIn K (.ref C) m = some (some (.ref f))
 fn : W.isFn K (.ref f) = true
 kp : W.keepIn K (.ref f) = true
section
variable {X : Cx} {pins : List (Addr × Obj)} {σ : St} {H : Hp} {s : Shared} {a C dx : Addr} {fs : List (Str × V)} {f : Str} {v : V} {A : Around} {E : Value -> Shared -> Prop}
theorem Inv.made (I : Inv X pins σ H s) : Inv X pins σ (upd (upd H s.heap.objs.size (.own (s.heap.objs.size + 1))) (s.heap.objs.size + 1) (.ins C s.heap.objs.size []))
  { s with heap := (s.heap.push W.emptyDict).push (W.instObj C s.heap.objs.size) } := by
 have e1 : (s.heap.push W.emptyDict).get? s.heap.objs.size = some W.emptyDict := Heap.get?_push_size s.heap rfl
 have e2 : ((s.heap.push W.emptyDict).push (W.instObj C s.heap.objs.size)).get? (s.heap.objs.size + 1) = some (W.instObj C s.heap.objs.size) := by
  have := Heap.get?_push_size (s.heap.push W.emptyDict) (o := W.instObj C s.heap.objs.size) rfl
  rwa [Heap.size_push] at this
 have e3 : (s.heap.push W.emptyDict).Ns s.heap.objs.size (fun _ => none) := ⟨W.emptyDict, #[], _, e1, rfl, (fun e he => absurd he (by simp)), fun _ => rfl⟩
 have I1 := I.laid (a := s.heap.objs.size) (o := .own (s.heap.objs.size + 1)) (h' := s.heap.push W.emptyDict) (t' := s.toks) (fun b u q => Heap.get?_push_of_some _ q) (Nat.le_refl _) ⟨_, e1⟩
 refine I1.laid (a := s.heap.objs.size + 1) (o := .ins C s.heap.objs.size []) (t' := s.toks) (fun b u q => Heap.get?_push_of_some _ q) (Nat.le_of_eq (Heap.size_push _ _)) ?_
 have ne : s.heap.objs.size ≠ s.heap.objs.size + 1 := Nat.ne_of_lt (Nat.lt_succ_self _)
 refine ⟨by rw [upd_ne ne, upd_same], Nat.zero_le _, ne, e2, fun _ => none, (Heap.Ns1.of_empty e3).at fun o q => Heap.get?_push_of_some _ q, fun _ => True.intro, fun y hy => absurd rfl hy⟩
end
section
variable {X : Cx} {o e value : Expr} {f : Str} {pos pos' tpos : Pos} {ta tv : TE}
end
section
variable {X : Cx} {pins : List (Addr × Obj)} {σ : St} {H : Hp} {s : Shared} {A : Around} {E : Value -> Shared -> Prop} {Q : Value -> Shared -> Prop} {c : Value} {b : Bool}
inductive TyOf (K : W.Frag) (H : Hp) : V -> Value -> Prop where
 | non : TyOf K H .non (.type "NoneType")
 | bl (x : Bool) : TyOf K H (.bl x) (.type "bool")
 | int (i : Int) : TyOf K H (.int i) (.type "int")
 | str (x : Str) : TyOf K H (.str x) (.type "str")
 | flt (x : UInt64) : TyOf K H (.flt x) (.type "float")
 | lst {a : Addr} {xs : List V} (e : H a = some (.lst xs)) : TyOf K H (.ref a) (.type "list")
 | frz {a : Addr} {o : Obj} {xs : List V} (e : H a = some (.frz o (.lst xs))) : TyOf K H (.ref a) (.type "list")
 | tup {a : Addr} {xs : List V} (e : H a = some (.tup xs)) : TyOf K H (.ref a) (.type "tuple")
 | dK {a : Addr} {kvs : List (Key × V)} (e : H a = some (.dK kvs)) : TyOf K H (.ref a) (.type "dict")
 | dT {a : Addr} {kvs : List (List Key × V)} (e : H a = some (.dT kvs)) : TyOf K H (.ref a) (.type "dict")
 | ins {a C dx : Addr} {fs : List (Str × V)} (e : H a = some (.ins C dx fs)) (cl : Cls K C) (ha : W.findIn K (.ref C) "__class__" = some (some (.builtin "object.__class__")))
   (hn : W.specialIn K (.builtin "object.__class__") "__get__" = some (some (.builtin "getset_descriptor.__get__"))) (htk : W.takesIn K (.builtin "object.__class__") = some true)
   (hm : W.mroIn K C (.type "object") = some true) : TyOf K H (.ref a) (.ref C)
end
end
section
structure Room (k : Nat) (A : Around) : Prop where
 hd : A.handled = none
 dp : A.depth + 3 * k + 5 < recursionLimit
 un : A.units + 16 * k + 200 < cLine
theorem Room.mono {j k : Nat} {A : Around} (r : Room k A) (h : j <= k) : Room j A := ⟨r.hd, by have := r.dp; omega, by have := r.un; omega⟩
theorem Room.deeper {k : Nat} {A : Around} (r : Room (k + 1) A) (env : Env) : Room k (A.deeper env) :=
 ⟨r.hd, by have := r.dp; show A.depth + 1 + 3 * k + 5 < _; omega, by have := r.un; show A.units + 3 + 16 * k + 200 < _; omega⟩
theorem Room.in1 {k : Nat} {A : Around} (r : Room (k + 1) A) : Room k A.in1 :=
 ⟨r.hd, by have := r.dp; show A.depth + 3 * k + 5 < _; omega, by have := r.un; show A.units + 1 + 16 * k + 200 < _; omega⟩
theorem Room.depth {k : Nat} {A : Around} (r : Room k A) : A.depth < recursionLimit := by have := r.dp; omega
theorem Room.units {k : Nat} {A : Around} (r : Room k A) : A.units + 64 < cLine := by have := r.un; omega
def tNil : TA := fun _ H Q => Q [] H
def tCons (ta : TE) (tr : TA) : TA := fun σ H Q => ta σ H fun x H1 => tr σ H1 fun xs H2 => Q (x :: xs) H2
section
variable {X : Cx} {e : Expr} {es : List Expr} {te : TE} {t : TA} {pos : Pos}
theorem pa_nil : PA X [] tNil := fun _ _ _ _ H Q I h => Calls.spliced_nil ⟨[], H, I, .nil, h⟩
theorem pa_cons (ha : PE X e te) (hr : PA X es t) (hs : starEach (e :: es) X.env = (false, eval e X.env) :: starEach es X.env := by rfl) : PA X (e :: es) (tCons te t) := by
 intro pos pins s σ H Q I h
 rw [hs]
 show wpAny _ _ (spliced ((false, eval e X.env) :: backTo pos (starEach es X.env))) _ _ s
 refine Calls.spliced_cons (thn (ha pins s σ H _ I h) fun u s1 hpat => ?_)
 obtain ⟨x, H1, I1, r1, q1⟩ := hpat
 exact thn (hr pos pins s1 σ H1 _ I1 q1) fun us s2 ⟨xs, H2, I2, r2, q2⟩ => ⟨x :: xs, H2, I2, .cons r1 r2, q2⟩
def tTup (t : TA) : TE := fun σ H Q => t σ H fun xs H1 => xs.length <= sizeLine /\ ∀ p, H1 p = none -> Q (.ref p) (upd H1 p (.tup xs))
def tLst (t : TA) : TE := fun σ H Q => t σ H fun xs H1 => xs.length <= sizeLine /\ ∀ p, H1 p = none -> Q (.ref p) (upd H1 p (.lst xs))
theorem pe_tup {x1} (h : PA X es t) : PE X (.Tuple es x1 pos) (tTup t) := by
 intro pins s σ H Q I hq
 refine wpAny_Tuple_spliced (thn (h pos pins s σ H _ I hq) fun us s1 ⟨xs, H1, I1, r, z, q⟩ => ⟨by rw [<- r.length]; exact z, ?_⟩)
 have hf : H1 s1.heap.objs.size = none := I1.hok.fresh (Nat.le_refl _)
 refine ⟨.ref s1.heap.objs.size, upd H1 s1.heap.objs.size (.tup xs), I1.laid (t' := s1.toks) (fun b u e => Heap.get?_push_of_some _ e) (Nat.le_refl _) ?_, rfl, q _ hf⟩
 exact ⟨z, us, r, ⟨_, Heap.get?_push_size _ rfl, rfl, _, rfl⟩⟩
theorem pe_lst (h : PA X es t) : PE X (.List es pos) (tLst t) := by
 intro pins s σ H Q I hq
 refine wpAny_List_spliced (thn (h pos pins s σ H _ I hq) fun us s1 ⟨xs, H1, I1, r, z, q⟩ => ⟨by rw [<- r.length]; exact z, ?_⟩)
 have hf : H1 s1.heap.objs.size = none := I1.hok.fresh (Nat.le_refl _)
 refine ⟨.ref s1.heap.objs.size, upd H1 s1.heap.objs.size (.lst xs), I1.laid (t' := s1.toks) (fun b u e => Heap.get?_push_of_some _ e) (Nat.le_refl _) ?_, rfl, q _ hf⟩
 exact ⟨z, us, 0, r, Heap.get?_push_size _ rfl⟩
end
abbrev Sp := List V -> Hp -> VK -> XK -> Prop
abbrev CXT := List Env -> Hp -> Shared -> XK -> Value -> Shared -> Prop
structure Env0 (P : Program) (w : World) (K : W.Frag) (mg : Str -> Option Value) (base : Heap) (A : Around) (outer : List Env) (s : Shared) (H : Hp) : Prop where
 frames : A.frames = some outer
 mod : Mod K mg base
 bs : ∀ b o, base.get? b = some o -> s.heap.get? b = some o /\ H b = none
 bsz : base.objs.size <= s.heap.objs.size
 funs : s.heap.FunFrames base outer
 frf : ∀ b ∈ frs outer, H b = none
 hok : HOk P w H s.heap
 bare : AllBare s.gens
def CE (outer : List Env) (P : Program) (w : World) (H : Hp) (s : Shared) (Q : VK) (u : Value) (s' : Shared) : Prop :=
 ∃ v H', s'.os = s.os /\ AllBare s'.gens /\ Un (frs outer) [] H H' s.heap s'.heap /\ HOk P w H' s'.heap /\ RelV v u /\ Q v H'
def CR (CX : CXT) (outer : List Env) (P : Program) (w : World) (H : Hp) (s : Shared) (Q : VK) (E : XK) (r : Result) (s' : Shared) : Prop :=
 match r with
 | .ok (.ret u) => CE outer P w H s Q u s'
 | .ok _ => False
 | .error e => CX outer H s E e s'
structure FnOk (P : Program) (w : World) (K : W.Frag) (mg : Str -> Option Value) (base : Heap) (CX : CXT) (k : Nat) (f : Addr) (fd : FuncData) (ps : List Str) (sp : Sp) : Prop where
 len : ∀ vs H Q E, sp vs H Q E -> vs.length = ps.length
 run : ∀ (A : Around) (outer : List Env) (s : Shared) (H : Hp) (args : Args) (us : List Value) (vs : List V) (Q : VK) (E : XK), Room k A -> Env0 P w K mg base A outer s H -> BindsTo s fd args (ps.zip us) -> Vals vs us -> sp vs H Q E ->
  codeAny (model P w) A (.call (.ref f) args) (CR CX outer P w H s Q E) s
theorem FnOk.mono {P : Program} {w : World} {K : W.Frag} {mg : Str -> Option Value} {base : Heap} {CX : CXT} {j k : Nat} {f : Addr} {fd : FuncData} {ps : List Str} {sp : Sp} (F : FnOk P w K mg base CX j f fd ps sp) (h : j <= k) :
  FnOk P w K mg base CX k f fd ps sp := ⟨F.len, fun A outer s H args us vs Q E hr => F.run A outer s H args us vs Q E (hr.mono h)⟩
theorem FnOk.imp {P : Program} {w : World} {K : W.Frag} {mg : Str -> Option Value} {base : Heap} {CX : CXT} {k : Nat} {f : Addr} {fd : FuncData} {ps : List Str} {sp sp' : Sp} (F : FnOk P w K mg base CX k f fd ps sp)
  (h : ∀ vs H Q E, sp' vs H Q E -> sp vs H Q E) : FnOk P w K mg base CX k f fd ps sp' :=
 ⟨fun vs H Q E q => F.len vs H Q E (h _ _ _ _ q), fun A outer s H args us vs Q E hr he hb hv hs => F.run A outer s H args us vs Q E hr he hb hv (h _ _ _ _ hs)⟩
theorem Env0.in1 {P : Program} {w : World} {K : W.Frag} {mg : Str -> Option Value} {base : Heap} {A : Around} {outer : List Env} {s : Shared} {H : Hp} (e : Env0 P w K mg base A outer s H) :
  Env0 P w K mg base A.in1 outer s H := ⟨e.frames, e.mod, e.bs, e.bsz, e.funs, e.frf, e.hok, e.bare⟩
section
variable {X : Cx} {pins : List (Addr × Obj)} {σ : St} {H : Hp} {s s' : Shared}
theorem Inv.env0 (I : Inv X pins σ H s) : Env0 X.prog X.w X.K X.mg X.base X.A X.stack s H :=
 ⟨I.ok.frames, I.ok.mod, I.bs, Nat.le_trans I.ok.bsz I.sz, I.stack, I.stkFree, I.hok, I.bare⟩
theorem Inv.after {Q : VK} {u : Value} (I : Inv X pins σ H s) (h : CE X.stack X.prog X.w H s Q u s') : EP X pins σ Q u s' := by
 obtain ⟨v, H', os, bare, un, hok, r, q⟩ := h
 obtain ⟨hh, g, d, t, os'⟩ := s'
 obtain rfl : os' = s.os := os
 exact ⟨v, H', I.call (h' := hh) (g' := g) (d' := d) (t' := t) (ch := []) un hok bare (fun b z => absurd z (by simp)), r, q⟩
end
def tCall (sp : Sp) (dvs : List V) (E : XK) (t : TA) : TE := fun σ H Q => t σ H fun vs H1 => sp (vs ++ dvs) H1 Q E
def Binds (K : W.Frag) (fd : FuncData) (ps : List Str) (ds : List Value) : Prop :=
 ∀ (s : Shared) (us : List Value), K.In s.heap -> (us ++ ds).length = ps.length -> BindsTo s fd ⟨us, []⟩ (ps.zip (us ++ ds))
theorem Binds.all {K : W.Frag} {fd : FuncData} {ps : List Str} (h : ∀ us : List Value, us.length = ps.length -> bindArgs fd ⟨us, []⟩ = pure (ps.zip us)) : Binds K fd ps [] := fun s us _ hl => by
 rw [append_nil] at hl ⊢
 exact .of_eq (h us hl)
def Passes (CX : CXT) (X : Cx) (E : XK) : Prop := ∀ (pins : List (Addr × Obj)) (σ : St) (H : Hp) (s : Shared) (e : Value) (s' : Shared), Inv X pins σ H s -> CX X.stack H s E e s' -> X.xe e s'
section
variable {X : Cx} {CX : CXT} {k : Nat} {f C : Addr} {fd : FuncData} {ps : List Str} {sp : Sp} {dvs : List V} {ds : List Value} {E : XK} {x m : Str} {p pos apos : Pos} {e o : Expr} {es : List Expr} {ta : TE} {t : TA}
theorem run_fn {pins : List (Addr × Obj)} {σ : St} {H : Hp} {s : Shared} {Q : VK} {us : List Value} {vs : List V} (F : FnOk X.prog X.w X.K X.mg X.base CX k f fd ps sp) (hr : Room k X.A) (hb : Binds X.K fd ps ds) (hd : Vals dvs ds) (hx : Passes CX X E)
  (I : Inv X pins σ H s) (r : Vals vs us) (h : sp (vs ++ dvs) H Q E) : wpAny (model X.prog X.w) X.A (call (.ref f) us) (EP X pins σ Q) X.xe s := by
 have r2 : Vals (vs ++ dvs) (us ++ ds) := r.append hd
 have hl : (us ++ ds).length = ps.length := by rw [<- r2.length]; exact F.len _ _ _ _ h
 refine wpAny_call (codeAny_mono (F.run X.A X.stack s H ⟨us, []⟩ (us ++ ds) (vs ++ dvs) Q E hr I.env0 (hb s us I.kIn hl) r2 h) fun r s' hq => ?_)
 cases r with
 | error e => exact hx pins σ H s e s' I hq
 | ok fl =>
  cases fl with
  | ret u => exact I.after hq
  | next => exact False.elim hq
  | brk => exact False.elim hq
  | cont => exact False.elim hq
theorem pe_call (F : FnOk X.prog X.w X.K X.mg X.base CX k f fd ps sp) (hr : Room k X.A) (hg : Gl X x) (hm : X.mg x = some (.ref f)) (hk : W.keepIn X.K (.ref f) = true) (hb : Binds X.K fd ps ds) (hd : Vals dvs ds) (hx : Passes CX X E)
  (ha : PA X (e :: es) t) (hdb : (x == ("__debug__" : Str)) = false := by decide) (he : starEach (e :: es) X.env = (false, eval e X.env) :: starEach es X.env := by rfl) (hpl : (backTo pos (starEach es X.env)).any (·.1) = false := by rfl) :
  PE X (.Call (.Name x p) (e :: es) [] pos) (tCall sp dvs E t) := by
 intro pins s σ H Q I h
 refine wpAny_Call_Name_kw (ld_glob I hg hm ?_ hdb)
 refine W.callWith_K (h₀ := X.base) I.ok.mod.kin hk (thn (ha pos pins s σ H _ I h) fun us s1 ⟨vs, H1, I1, r, q⟩ => ⟨I1.kIn, ?_⟩) he hpl
 exact run_fn F hr hb hd hx I1 r q
structure Mk (K : W.Frag) (C f : Addr) : Prop where
 makes : W.makesIn K C = true
 init : W.findIn K (.ref C) "__init__" = some (some (.ref f))
 fn : W.isFn K (.ref f) = true
 kp : W.keepIn K (.ref C) = true
end
section
variable {X : Cx} {CX : CXT} {k : Nat} {f C : Addr} {fd : FuncData} {ps ks : List Str} {sp : Sp} {E : XK} {x m : Str} {p pos apos kpos : Pos} {e o : Expr} {es : List Expr} {kws : List Keyword} {te ta : TE} {t tk : TA} {nm : Option Str}
structure KBinds (K : W.Frag) (fd : FuncData) (ps ks : List Str) (g : List Value -> List Value -> List Value) (gV : List V -> List V -> List V) : Prop where
 to : ∀ (s : Shared) (us ws : List Value), K.In s.heap -> (g us ws).length = ps.length -> BindsTo s fd ⟨us, ks.zip ws⟩ (ps.zip (g us ws))
 rel : ∀ {vs : List V} {us : List Value} {zs : List V} {ws : List Value}, Vals vs us -> Vals zs ws -> Vals (gV vs zs) (g us ws)
variable {g : List Value -> List Value -> List Value} {gV : List V -> List V -> List V}
end
structure FnScope (N P : List Str) (sc : Scope) : Prop where
 kind : sc.kind = .function
 co : sc.isCoroutine = false
 gen : sc.isGenerator = false
 nd : N.Nodup
 pre : N.take P.length = P
 par : ∀ x ∈ P, sc.names.lookup x = some .local \/ sc.names.lookup x = some .cell
 nofree : ∀ y ∈ sc.names, y.2 ≠ .free
theorem bindL_out {kindOf : Str -> Option NameKind} {x : Str} : ∀ {binds : List (Str × Value)} {m : Str -> Option Value}, (∀ v, (x, v) ∉ binds) -> bindL kindOf binds m x = m x
 | [], _, _ => rfl
 | (n, v) :: r, m, h => by
  unfold bindL
  rw [bindL_out fun w hw => h w (mem_cons_of_mem _ hw)]
  split
  ·have : x ≠ n := by rintro rfl; exact h v mem_cons_self
   simp [this]
  ·rfl
theorem bindC_out {kindOf : Str -> Option NameKind} {x : Str} : ∀ {binds : List (Str × Value)} {m : Str -> Option Value}, (∀ v, (x, v) ∉ binds) -> bindC kindOf binds m x = m x
 | [], _, _ => rfl
 | (n, v) :: r, m, h => by
  unfold bindC
  rw [bindC_out fun w hw => h w (mem_cons_of_mem _ hw)]
  split
  ·rfl
  ·have : x ≠ n := by rintro rfl; exact h v mem_cons_self
   simp [this]
theorem bindL_get {kindOf : Str -> Option NameKind} {x : Str} {v : Value} : ∀ {P : List Str} {vs : List Value} {i : Nat} {m : Str -> Option Value}, P.Nodup -> P[i]? = some x -> vs[i]? = some v -> kindOf x = some .local ->
  bindL kindOf (P.zip vs) m x = some v
 | [], _, _, _, _, h, _, _ => by simp at h
 | _ :: _, [], _, _, _, _, h, _ => by simp at h
 | p :: P, w :: vs, 0, m, nd, h1, h2, hk => by
  simp at h1 h2; subst h1; subst h2
  show bindL kindOf ((p, w) :: P.zip vs) m p = _
  unfold bindL
  rw [bindL_out fun v hv => (List.nodup_cons.mp nd).1 (of_mem_zip hv).1, if_pos hk]
  simp
 | p :: P, w :: vs, i + 1, m, nd, h1, h2, hk => by
  show bindL kindOf ((p, w) :: P.zip vs) m x = _
  unfold bindL
  exact bindL_get (i := i) (List.nodup_cons.mp nd).2 (by simpa using h1) (by simpa using h2) hk
theorem bindC_get {kindOf : Str -> Option NameKind} {x : Str} {v : Value} : ∀ {P : List Str} {vs : List Value} {i : Nat} {m : Str -> Option Value}, P.Nodup -> P[i]? = some x -> vs[i]? = some v -> kindOf x ≠ some .local ->
  bindC kindOf (P.zip vs) m x = some v
 | [], _, _, _, _, h, _, _ => by simp at h
 | _ :: _, [], _, _, _, _, h, _ => by simp at h
 | p :: P, w :: vs, 0, m, nd, h1, h2, hk => by
  simp at h1 h2; subst h1; subst h2
  show bindC kindOf ((p, w) :: P.zip vs) m p = _
  unfold bindC
  rw [bindC_out fun v hv => (List.nodup_cons.mp nd).1 (of_mem_zip hv).1, if_neg hk]
  simp
 | p :: P, w :: vs, i + 1, m, nd, h1, h2, hk => by
  show bindC kindOf ((p, w) :: P.zip vs) m x = _
  unfold bindC
  exact bindC_get (i := i) (List.nodup_cons.mp nd).2 (by simpa using h1) (by simpa using h2) hk
def start (N : List Str) (vs : List V) : St := vs.map some ++ List.replicate (N.length - vs.length) none
def cxOf (CX : CXT) (P : Program) (w : World) (K : W.Frag) (mg : Str -> Option Value) (base : Heap) (N : List Str) (qual : Str) (scope : Scope) (f : Addr) (cd : Value) (A : Around) (outer : List Env) (s : Shared) (H : Hp) (E : XK) : Cx where
 prog := P
 w := w
 K := K
 mg := mg
 base := base
 A := A.deeper (envOfC qual scope s.heap.objs.size f cd)
 N := N
 s₀ := s
 H₀ := H
 env := envOfC qual scope s.heap.objs.size f cd
 outer := outer
 stack := envOfC qual scope s.heap.objs.size f cd :: outer
 ex := []
 calm := true
 fn := fun _ => true
 pn := []
 xe := fun e s' => wpAny (model P w) (A.deeper (envOfC qual scope s.heap.objs.size f cd)) (leaving (envOfC qual scope s.heap.objs.size f cd) e) (fun _ s'' => CX outer H s E e s'') (fun e' s'' => CX outer H s E e' s'') s'
theorem cell_has {sc : Scope} {n : Nat} {x : Str} (h : sc.names.lookup x = some .cell) : ∃ c, (cellsFrom n sc.names []).lookup x = some c := by
 have q := W.cellsFrom_some sc.names n [] (.inl h)
 exact Option.isSome_iff_exists.mp q
theorem inv_start {CX : CXT} {P : Program} {w : World} {K : W.Frag} {mg : Str -> Option Value} {base : Heap} {N ps : List Str} {qual : Str} {scope : Scope} {f : Addr} {cd : Value} {A : Around} {outer : List Env} {s s1 : Shared} {H : Hp} {E : XK} {us : List Value} {vs : List V}
  (S : FnScope N ps scope) (hd : A.handled = none) (e0 : Env0 P w K mg base A outer s H) (hl : vs.length = ps.length) (r : Vals vs us)
  (x : InCallC s s.heap.objs.size (bindL (envOfC qual scope s.heap.objs.size f cd).kindOf (ps.zip us) fun _ => none) (cellsFrom (s.heap.objs.size + 1) scope.names []) (bindC (envOfC qual scope s.heap.objs.size f cd).kindOf (ps.zip us) fun _ => none) s1) :
  Inv (cxOf CX P w K mg base N qual scope f cd A outer s H E) [] (start N vs) H s1 := by
 have hpl : ps.length <= N.length := by have := congrArg List.length S.pre; rw [length_take] at this; omega
 obtain ⟨h1, tk, rfl, hk⟩ := x.done
 have noA : ∀ b : Addr, b ∉ (cxOf CX P w K mg base N qual scope f cd A outer s H E).ex := fun b z => absurd (show b ∈ ([] : List Addr) from z) (by simp)
 refine ⟨⟨e0.mod, S.kind, rfl, rfl, Nat.le_refl _, fun y z c h1 h2 => ?_, fun y hy => ?_, fun y c _ h => ?_, fun _ => hd, Around.frames_deeper e0.frames, .inr ⟨rfl, rfl⟩, fun b z => absurd z (noA b), e0.bs, e0.bsz, fun b _ _ => noA b, fun b z => absurd z (noA b), e0.funs, e0.frf⟩,
  rfl, e0.bare, Un.kept hk, ⟨_, x.toInCall.ns, fun i y v h1 h2 h3 => ?_⟩, fun y c h => ⟨_, x.cell y c h⟩, e0.hok.fresh (Nat.le_refl _), fun y c h => ?_, fun p hp => absurd (show p ∈ ([] : List (Addr × Obj)) from hp) (by simp), e0.hok.kept hk, ?_⟩
 ·exact name_of_addr x.apart (PySem.mem_of_lookup h1) (PySem.mem_of_lookup h2)
 ·have hy : scope.names.lookup y = some .cell \/ scope.names.lookup y = some .free := hy
  rcases hy with hy | hy
  ·exact cell_has hy
  ·exact absurd rfl (S.nofree _ (PySem.mem_of_lookup hy))
 ·exact Nat.le_of_lt (x.above y c (PySem.mem_of_lookup h))
 ·have hi : i < vs.length := by
   unfold start at h2
   by_cases hi : i < vs.length
   ·exact hi
   ·rw [getElem?_append_right (by simpa using hi)] at h2
    rw [getElem?_replicate] at h2
    split at h2 <;> cases h2
  have ha : vs[i]? = some v := by
   unfold start at h2
   rw [getElem?_append_left (by simpa using hi), getElem?_map] at h2
   cases e : vs[i]? with
   | none => rw [e] at h2; cases h2
   | some a => rw [e] at h2; cases h2; rfl
  obtain ⟨u, hu, rv⟩ := r.get ha
  have hp : ps[i]? = some y := by
   rw [<- S.pre, getElem?_take_of_lt (by omega)]; exact h1
  have ndP : ps.Nodup := by rw [<- S.pre]; exact S.nd.sublist (take_sublist _ _)
  refine ⟨u, rv, ?_⟩
  rcases S.par y (mem_of_getElem? hp) with k | k
  ·exact .inl ⟨k, bindL_get ndP hp hu k⟩
  ·obtain ⟨c, e⟩ := cell_has (n := s.heap.objs.size + 1) k
   refine .inr ⟨.inl k, c, e, ?_⟩
   have q := x.cell y c e
   rw [bindC_get ndP hp hu (by show scope.names.lookup y ≠ _; rw [k]; decide)] at q
   exact q
 ·exact e0.hok.fresh (Nat.le_of_lt (x.above y c (PySem.mem_of_lookup h)))
 ·unfold start
  show _ = N.length
  rw [length_append, length_map, length_replicate]
  omega
theorem fn_of {CX : CXT} {P : Program} {w : World} {K : W.Frag} {mg : Str -> Option Value} {base : Heap} {k : Nat} {f : Addr} {name qual : Str} {params : Arguments} {body : List Stmt} {scope : Scope} {dV kV doc pm cdv ct oc : Value} {an od : Option Addr}
  {osl : Array (Option Value)} {N ps : List Str} {sp : Sp} (lk : K.lookup f = some ⟨oc, od, .func (W.fnOf name qual params body scope dV kV doc pm an cdv ct), osl⟩) (hcd : W.codeIn K cdv qual = true) (S : FnScope N ps scope)
  (len : ∀ vs H Q E, sp vs H Q E -> vs.length = ps.length)
  (hbody : ∀ (A : Around) (outer : List Env) (s : Shared) (H : Hp) (vs : List V) (Q : VK) (E : XK), Room k (A.deeper (envOfC qual scope s.heap.objs.size f cdv)) -> sp vs H Q E ->
   ∃ t, PSs (cxOf CX P w K mg base N qual scope f cdv A outer s H E) body t /\ t { nx := fun _ H' => Q .non H', rt := Q } (start N vs) H) :
  FnOk P w K mg base CX (k + 1) f (W.fnOf name qual params body scope dV kV doc pm an cdv ct) ps sp := by
 refine ⟨len, fun A outer s H args us vs Q E hr e0 hb r hsp => ?_⟩
 have hl := len _ _ _ _ hsp
 have KX : K.In s.heap := e0.mod.kin.keeps fun b o e => (e0.bs b o e).1
 have lim : s.heap.NoLimit := e0.mod.nolimit.keeps fun b o e => (e0.bs b o e).1
 have hkind : ∀ y ∈ ps.zip us, scope.names.lookup y.1 = some .local \/ (scope.names.lookup y.1 = some .cell /\ ((cellsFrom (s.heap.objs.size + 1) scope.names []).lookup y.1).isSome = true) := fun ⟨n, v⟩ hy => by
  rcases S.par n (of_mem_zip hy).1 with q | q
  ·exact .inl q
  ·exact .inr ⟨q, W.cellsFrom_some _ _ _ (.inl q)⟩
 refine codeAny_call_function hr.depth (KX _ _ lk) rfl S.co S.gen rfl (W.codeRec_of KX hcd) (hb _ _ _ _ ?_)
 refine wpAny_newFunctionEnv_cells S.kind hkind fun env he s1 x => ?_
 subst he
 refine ⟨lim.keeps x.toInCall.keep, codeAny_func ?_⟩
 obtain ⟨t, ht, hq⟩ := hbody A outer s H vs Q E (hr.deeper _) hsp
 have I : Inv (cxOf CX P w K mg base N qual scope f cdv A outer s H E) [] (start N vs) H s1 := inv_start S hr.hd e0 hl r x
 refine wpAny_mono (ht [] s1 (start N vs) H _ I hq) (fun fl s' hs => ?_) fun e s' hs => hs
 have fin : ∀ {σ' : St} {H' : Hp} {v : V} {u : Value}, Inv (cxOf CX P w K mg base N qual scope f cdv A outer s H E) [] σ' H' s' -> RelV v u -> Q v H' -> CE outer P w H s Q u s' :=
  fun {σ' H' v u} J rv q => ⟨v, H', J.os, J.bare, J.base, J.hok, rv, q⟩
 cases fl with
 | ret u =>
  obtain ⟨v, σ', H', J, rv, q⟩ := hs
  exact fin J rv q
 | next =>
  obtain ⟨σ', H', J, q⟩ := hs
  exact fin (v := V.non) (u := Value.none) J rfl q
 | brk =>
  obtain ⟨_, _, _, q⟩ := hs
  exact False.elim q
 | cont =>
  obtain ⟨_, _, _, q⟩ := hs
  exact False.elim q
end
section
section
variable {X : Cx} {x : Str} {p pos : Pos} {e : Expr} {es : List Expr} {t : TA} {id T : String} {r : List V -> Hp -> VK -> Prop}
def tCB (r : List V -> Hp -> VK -> Prop) (t : TA) : TE := fun σ H Q => t σ H fun vs H1 => r vs H1 Q
theorem pe_callB (hc : CallR X (.builtin id) r) (hg : Gl X x) (hm : X.mg x = none) (hv : bootBuiltins x = some (.builtin id)) (ha : PA X (e :: es) t) (hn : x ≠ "__name__" := by decide) (hdb : (x == ("__debug__" : Str)) = false := by decide)
  (he : starEach (e :: es) X.env = (false, eval e X.env) :: starEach es X.env := by rfl) (hpl : (backTo pos (starEach es X.env)).any (·.1) = false := by rfl) : PE X (.Call (.Name x p) (e :: es) [] pos) (tCB r t) := by
 intro pins s σ H Q I h
 refine wpAny_Call_Name_kw (ld_blt I hg hm hv ?_ hn hdb)
 exact PyProof.Rows.callWith_builtin1 (thn (ha pos pins s σ H _ I h) fun us s1 ⟨vs, H1, I1, r1, q1⟩ => hc pins s1 σ H1 vs us Q I1 r1 q1) he hpl
theorem pe_callTy (hc : CallR X (.type T) r) (hg : Gl X x) (hm : X.mg x = none) (hv : bootBuiltins x = some (.type T)) (ha : PA X (e :: es) t) (hn : x ≠ "__name__" := by decide) (hdb : (x == ("__debug__" : Str)) = false := by decide)
  (he : starEach (e :: es) X.env = (false, eval e X.env) :: starEach es X.env := by rfl) (hpl : (backTo pos (starEach es X.env)).any (·.1) = false := by rfl) : PE X (.Call (.Name x p) (e :: es) [] pos) (tCB r t) := by
 intro pins s σ H Q I h
 refine wpAny_Call_Name_kw (ld_blt I hg hm hv ?_ hn hdb)
 exact PyProof.Rows.callWith_type1 (thn (ha pos pins s σ H _ I h) fun us s1 ⟨vs, H1, I1, r1, q1⟩ => hc pins s1 σ H1 vs us Q I1 r1 q1) he hpl
end
end
end L2
namespace HT
open PySem PyProof.Rows
section
open PySem.SeqAt
open PySem.AutoSeq1 (wpAny_loadPart')
open PySem.MeetsSeq PySem.MeetsSeq2 PySem.MeetsSeq3
end
section
variable {prog : Program} {w : World} {A : Around} {E : Value -> Shared -> Prop} {s : Shared}
def sIx (n d : Nat) : Option Int -> Nat
 | none => d
 | some v => if v < 0 then (v + (n : Int)).toNat else min v.toNat n
theorem sIx_none (n d : Nat) : sIx n d none = d := rfl
theorem sIx_nat (n d k : Nat) : sIx n d (some (k : Int)) = min k n := by
 show (if (k : Int) < 0 then ((k : Int) + (n : Int)).toNat else min (k : Int).toNat n) = min k n
 rw [if_neg (by omega), Int.toNat_natCast]
end
end HT
namespace L2
open List
open PySem PySem.Spec PyProof.Rows
section
abbrev TO := St -> Hp -> (Option Int -> Hp -> Prop) -> Prop
def PO (X : Cx) (e : Option Expr) (t : TO) : Prop :=
 ∀ (pins : List (Addr × Obj)) (s : Shared) (σ : St) (H : Hp) (Q : Option Int -> Hp -> Prop), Inv X pins σ H s -> t σ H Q ->
  wpAny (model X.prog X.w) X.A (evalPart e X.env) (fun u s' => ∃ o H', Inv X pins σ H' s' /\ IsPart u o /\ Q o H') X.xe s
def tNoPart : TO := fun _ H Q => Q none H
def tPart (t : TE) : TO := fun σ H Q => t σ H fun x H1 => ∃ i, x = .int i /\ Q (some i) H1
section
variable {X : Cx} {e : Expr} {te : TE} {lo hi : Option Expr} {tl th : TO} {pos p2 : Pos}
theorem po_none : PO X none tNoPart := by
 intro pins s σ H Q I h
 rw [evalPart_none]
 exact wpAny_pure ⟨none, H, I, .none, h⟩
theorem po_some (h : PE X e te) : PO X (some e) (tPart te) := by
 intro pins s σ H Q I hw
 rw [evalPart_some]
 refine thn (h pins s σ H _ I hw) fun u s1 hpat => ?_
 obtain ⟨x, H1, I1, r1, q1⟩ := hpat
 obtain ⟨i, rfl, q⟩ := q1
 obtain ⟨t, rfl⟩ := r1
 exact ⟨some i, H1, I1, .int i t, q⟩
def SlR (X : Cx) (r : V -> Option Int -> Option Int -> Hp -> VK -> Prop) : Prop :=
 ∀ (pins : List (Addr × Obj)) (s : Shared) (σ : St) (H : Hp) (x : V) (v vl vu : Value) (lo hi : Option Int) (sl : Addr) (Q : VK), Inv X pins σ H s -> RelV x v -> s.heap.IsSliceOf sl vl vu .none -> IsPart vl lo -> IsPart vu hi -> r x lo hi H Q ->
  ∃ T id, typeLookup (.type T) "__getitem__" = pure (some (.builtin id)) /\ s.TypeIs v T /\ wpAny (model X.prog X.w) X.A (getItem v (.ref sl)) (EP X pins σ Q) X.xe s
theorem SlR.or {r r' : V -> Option Int -> Option Int -> Hp -> VK -> Prop} (h : SlR X r) (h' : SlR X r') : SlR X (fun x lo hi H Q => r x lo hi H Q \/ r' x lo hi H Q) := by
 intro pins s σ H x v vl vu lo hi sl Q I rx hs pl pu q
 rcases q with q | q
 ·exact h pins s σ H x v vl vu lo hi sl Q I rx hs pl pu q
 ·exact h' pins s σ H x v vl vu lo hi sl Q I rx hs pl pu q
def tSl (r : V -> Option Int -> Option Int -> Hp -> VK -> Prop) (te : TE) (tl th : TO) : TE := fun σ H Q => te σ H fun x H1 => tl σ H1 fun l H2 => th σ H2 fun u H3 => r x l u H3 Q
theorem pe_slice {r : V -> Option Int -> Option Int -> Hp -> VK -> Prop} (hr : SlR X r) (he : PE X e te) (hl : PO X lo tl) (hu : PO X hi th) : PE X (.Subscript e (.Slice lo hi none p2) pos) (tSl r te tl th) := by
 intro pins s σ H Q I h
 refine Subscript_ (thn (he pins s σ H _ I h) fun v s1 hpat => ?_)
 obtain ⟨x, H1, I1, r1, q1⟩ := hpat
 refine wpAny_Slice (thn (hl pins s1 σ H1 _ I1 q1) fun vl s2 ⟨l, H2, I2, pl, q2⟩ => thn (hu pins s2 σ H2 _ I2 q2) fun vu s3 hpat => ?_)
 obtain ⟨u, H3, I3, pu, q3⟩ := hpat
 rw [evalPart_none]
 refine wpAny_pure ?_
 have I4 : Inv X pins σ H3 { s3 with heap := s3.heap.push { cls := .type "slice", data := .fields #[vl, vu, .none] } } := I3.kept (t' := s3.toks) fun b ob q => Heap.get?_push_of_some _ q
 obtain ⟨T, id, hT, ht, hg⟩ := hr pins { s3 with heap := s3.heap.push { cls := .type "slice", data := .fields #[vl, vu, .none] } } σ H3 x v vl vu l u s3.heap.objs.size Q I4 r1 (Heap.IsSliceOf.new ..) pl pu q3
 show wpAny (model X.prog X.w) X.A (subscriptTail e (.Slice lo hi none p2) v (.ref s3.heap.objs.size)) (EP X pins σ Q) X.xe { s3 with heap := s3.heap.push { cls := .type "slice", data := .fields #[vl, vu, .none] } }
 exact tail_any (ops := [.ref s3.heap.objs.size, v]) ht hT hg (by with_unfolding_all rfl)
def cutV (xs : List V) (lo hi : Option Int) : List V := (xs.drop (HT.sIx xs.length 0 lo)).take (HT.sIx xs.length xs.length hi - HT.sIx xs.length 0 lo)
theorem cutV_length (xs : List V) (lo hi : Option Int) : (cutV xs lo hi).length <= xs.length := by
 unfold cutV
 rw [length_take, length_drop]
 omega
end
end
section
def ixN (n : Nat) (i : Int) : Option Nat := if 0 <= i then (if i < n then some i.toNat else none) else if -(n : Int) <= i then some (i + n).toNat else none
def atI {α : Type} (xs : List α) (i : Int) : Option α := (ixN xs.length i).bind fun j => xs[j]?
theorem ixN_seq {n : Nat} {i : Int} {j : Nat} (h : ixN n i = some j) : seqIndex? i n = some j /\ j < n /\ -(n : Int) <= i /\ i < n := by
 unfold ixN at h
 by_cases h0 : 0 <= i
 ·rw [if_pos h0] at h
  by_cases h1 : i < n
  ·rw [if_pos h1] at h
   have e : i.toNat = j := Option.some.inj h
   exact ⟨by rw [seqIndex_of h0 h1, e], by omega, by omega, h1⟩
  ·rw [if_neg h1] at h; cases h
 ·rw [if_neg h0] at h
  by_cases h1 : -(n : Int) <= i
  ·rw [if_pos h1] at h
   have e : (i + n).toNat = j := Option.some.inj h
   exact ⟨by rw [seqIndex_neg (by omega) h1, e], by omega, h1, by omega⟩
  ·rw [if_neg h1] at h; cases h
theorem atI_get {α : Type} {xs : List α} {i : Int} {v : α} (h : atI xs i = some v) : ∃ j, seqIndex? i xs.length = some j /\ xs[j]? = some v /\ j < xs.length /\ -(xs.length : Int) <= i /\ i < xs.length := by
 unfold atI at h
 cases e : ixN xs.length i with
 | none => rw [e] at h; cases h
 | some j =>
  rw [e] at h
  obtain ⟨h1, h2, h3, h4⟩ := ixN_seq e
  exact ⟨j, h1, h, h2, h3, h4⟩
theorem atI_last {α : Type} (xs : List α) (v : α) : atI (xs ++ [v]) (-1) = some v := by
 have hl : (xs ++ [v]).length = xs.length + 1 := by simp
 have e : ixN (xs ++ [v]).length (-1) = some xs.length := by
  unfold ixN
  rw [hl, if_neg (by decide), if_pos (by omega)]
  congr 1
  omega
 unfold atI
 rw [e]
 show (xs ++ [v])[xs.length]? = some v
 simp
def PlainIx (b : Expr) : Prop := ∀ o i, subscripted b false o i = operate [o, i] (getItem o i)
def IxR (X : Cx) (r : R2) : Prop :=
 ∀ (value slice : Expr) (pins : List (Addr × Obj)) (s : Shared) (σ : St) (H : Hp) (x y : V) (v u : Value) (Q : VK), Inv X pins σ H s -> RelV x v -> RelV y u -> r x y H Q ->
  subscripted slice false v u = operate [v, u] (getItem v u) -> wpAny (model X.prog X.w) X.A (subscriptTail value slice v u) (EP X pins σ Q) X.xe s
def MtR (X : Cx) (id : String) (r : V -> List V -> Hp -> VK -> Prop) : Prop :=
 ∀ (pins : List (Addr × Obj)) (s : Shared) (σ : St) (H : Hp) (x : V) (xs : List V) (v : Value) (us : List Value) (Q : VK), Inv X pins σ H s -> RelV x v -> Vals xs us -> r x xs H Q ->
  wpAny (model X.prog X.w) X.A (call (.builtin id) (v :: us)) (EP X pins σ Q) X.xe s
section
variable {X : Cx} {a b : Expr} {ta tb : TE} {pos : Pos}
theorem IxR.or {r r' : R2} (h : IxR X r) (h' : IxR X r') : IxR X (fun x y H Q => r x y H Q \/ r' x y H Q) := by
 intro value slice pins s σ H x y v u Q I rx ry q hs
 rcases q with q | q
 ·exact h value slice pins s σ H x y v u Q I rx ry q hs
 ·exact h' value slice pins s σ H x y v u Q I rx ry q hs
theorem MtR.or {id : String} {r r' : V -> List V -> Hp -> VK -> Prop} (h : MtR X id r) (h' : MtR X id r') : MtR X id (fun x xs H Q => r x xs H Q \/ r' x xs H Q) := by
 intro pins s σ H x xs v us Q I rx rs q
 rcases q with q | q
 ·exact h pins s σ H x xs v us Q I rx rs q
 ·exact h' pins s σ H x xs v us Q I rx rs q
theorem pe_ix {r : R2} (hr : IxR X r) (ha : PE X a ta) (hb : PE X b tb) (hs : PlainIx b) : PE X (.Subscript a b pos) (tOp r ta tb) := by
 intro pins s σ H Q I h
 exact Subscript_ (binT ha hb I h fun v u s2 x y H2 I2 rx ry q => hr a b pins s2 σ H2 x y v u Q I2 rx ry q (hs _ _))
def rIxL (K : W.Frag) : R2 := fun x y H Q => ∃ p xs i v, x = .ref p /\ y = .int i /\ SqL K H p xs /\ atI xs i = some v /\ Q v H
theorem ix_list : IxR X (rIxL X.K) := by
 intro value slice pins s σ H x y v u Q I rx ry h hs
 obtain ⟨p, xs, i, z, rfl, rfl, hq, he, q⟩ := h
 cases rx
 obtain ⟨t, rfl⟩ := ry
 obtain ⟨its, r, pl, hz⟩ := I.list hq
 obtain ⟨j, h1, h2, h3, h4, h5⟩ := atI_get he
 obtain ⟨w, ew, rw'⟩ := r.get h2
 have hl := r.length
 have hn := line63
 have fin : EP X pins σ Q w s := ⟨z, H, I, rw', q⟩
 by_cases h0 : 0 <= i
 ·have hj : i.toNat = j := by
   rw [seqIndex_of h0 h5] at h1
   exact Option.some.inj h1
  exact item_listR pl.isList h0 (by omega) (by rw [hj]; simpa using ew) fin hs
 ·have hj : (i + (its.toArray.size : Int)).toNat = j := by
   rw [seqIndex_neg (by omega) h4] at h1
   rw [size_toArray, <- hl]
   exact Option.some.inj h1
  exact subscriptTail_builtinR (x := w) pl.isList.typeIs slot_list_getitem.lookup
   (wpAny_getItem_list_neg (Q := fun r s' => r = w /\ EP X pins σ Q r s') pl.isList (by omega) (by rw [size_toArray] <;> omega) (by omega) (by rw [hj]; simpa using ew) ⟨rfl, fin⟩) hs
theorem mapSeq_set (its : List Value) (n j : Nat) (u : Value) : Obj.mapSeq (·.setIfInBounds j u) { cls := .type "list", data := .seq its.toArray n } = { cls := .type "list", data := .seq (its.set j u).toArray n } := by
 simp [Obj.mapSeq]
theorem Inv.lst {pins : List (Addr × Obj)} {σ : St} {H : Hp} {s : Shared} {p : Addr} {xs : List V} (I : Inv X pins σ H s) (h : H p = some (.lst xs)) :
  ∃ (its : List Value) (n : Nat), Vals xs its /\ s.heap.get? p = some { cls := .type "list", data := .seq its.toArray n } /\ xs.length <= sizeLine := by
 obtain ⟨z, its, n, r, e⟩ := I.hok p _ h
 exact ⟨its, n, r, e, z⟩
theorem Inv.lstUpd {pins : List (Addr × Obj)} {σ : St} {H : Hp} {s : Shared} {p : Addr} {xs ys : List V} {its its' : List Value} {n n' : Nat} {f : Obj -> Obj} (I : Inv X pins σ H s) (h : H p = some (.lst xs))
  (ho : s.heap.get? p = some { cls := .type "list", data := .seq its.toArray n }) (hf : f { cls := .type "list", data := .seq its.toArray n } = { cls := .type "list", data := .seq its'.toArray n' }) (r : Vals ys its') (hz : ys.length <= sizeLine) (t : Nat) :
  Inv X pins σ (upd H p (.lst ys)) { s with heap := s.heap.update p f, toks := t } := by
 have e : (s.heap.update p f).get? p = some { cls := .type "list", data := .seq its'.toArray n' } := by
  rw [Heap.get?_update_self f ho (by rw [hf] <;> rfl), hf]
 refine I.write (x := p) (e := p) (by rw [h]; trivial) (.inl rfl) (fun b u hb q => (Heap.get?_update_other _ _ (Ne.symm hb)).trans q) ⟨_, e⟩ ?_
 exact ⟨hz, its', n', r, e⟩
def rSetL : V -> V -> V -> Hp -> (Hp -> Prop) -> Prop := fun o i v H Q => ∃ p xs k j, o = .ref p /\ i = .int k /\ H p = some (.lst xs) /\ ixN xs.length k = some j /\ Q (upd H p (.lst (xs.set j v)))
theorem set_list : PSet X rSetL := by
 intro pins s σ H o i v ov iv u Q I ro ri rv h
 obtain ⟨p, xs, k, j, rfl, rfl, hp, hj, q⟩ := h
 cases ro
 obtain ⟨t, rfl⟩ := ri
 obtain ⟨its, n, r, ho, hz⟩ := I.lst hp
 obtain ⟨h1, h2, h3, h4⟩ := ixN_seq hj
 have hl := r.length
 have hn := line63
 have I' : Inv X pins σ (upd H p (.lst (xs.set j v))) { s with heap := s.heap.update p (Obj.mapSeq (·.setIfInBounds j u)) } :=
  I.lstUpd hp ho (mapSeq_set its n j u) (r.set rv j) (by rw [length_set]; exact hz) s.toks
 by_cases h0 : 0 <= k
 ·have hk : k.toNat = j := by
   rw [seqIndex_of h0 h4] at h1
   exact Option.some.inj h1
  exact W.ki_setAt ho h0 (by omega) (by rw [size_toArray, <- hl]; exact h4) (by rw [hk]; exact ⟨_, I', q⟩)
 ·have hk : (k + (its.toArray.size : Int)).toNat = j := by
   rw [seqIndex_neg (by omega) h3] at h1
   rw [size_toArray, <- hl]
   exact Option.some.inj h1
  exact W.ki_setBack ho (by omega) (by rw [size_toArray, <- hl]; exact h3) (by omega) (by rw [hk]; exact ⟨_, I', q⟩)
theorem slice_bounds (lo hi : Option Int) (n : Nat) : (sliceBounds lo hi none n).1 = ((HT.sIx n 0 lo : Nat) : Int) /\ (sliceBounds lo hi none n).2.1 = ((HT.sIx n n hi : Nat) : Int) /\ (sliceBounds lo hi none n).2.2 = 1 := by
 refine ⟨?_, ?_, rfl⟩
 ·cases lo with
  | none => simp [sliceBounds, HT.sIx]
  | some i =>
   simp only [sliceBounds, HT.sIx, Option.getD_none, show (1 : Int) > 0 by decide, if_true]
   by_cases h : i < 0
   ·simp only [h, if_true] <;> omega
   ·simp only [h, if_false] <;> omega
 ·cases hi with
  | none => simp [sliceBounds, HT.sIx]
  | some i =>
   simp only [sliceBounds, HT.sIx, Option.getD_none, show (1 : Int) > 0 by decide, if_true]
   by_cases h : i < 0
   ·simp only [h, if_true] <;> omega
   ·simp only [h, if_false] <;> omega
theorem slicePick_cut (its : List Value) (lo hi : Option Int) : slicePick its.toArray lo hi none = ((its.drop (HT.sIx its.length 0 lo)).take (HT.sIx its.length its.length hi - HT.sIx its.length 0 lo)).toArray := by
 obtain ⟨h1, h2, h3⟩ := slice_bounds lo hi its.toArray.size
 unfold slicePick
 rw [h1, h2, h3]
 simp only [sliceRange_one, pick_run, size_toArray] <;> rfl
def rSlL (K : W.Frag) : V -> Option Int -> Option Int -> Hp -> VK -> Prop := fun x lo hi H Q => ∃ a xs, x = .ref a /\ SqL K H a xs /\ ∀ p, H p = none -> Q (.ref p) (upd H p (.lst (cutV xs lo hi)))
theorem sl_list : SlR X (rSlL X.K) := by
 intro pins s σ H x v vl vu lo hi sl Q I rx hs pl pu h
 obtain ⟨a, xs, rfl, hx, q⟩ := h
 cases rx
 obtain ⟨its, r, ht, hz⟩ := I.list hx
 have hlen := r.length
 refine ⟨"list", _, slot_list_getitem.lookup, ht.isList.typeIs, ?_⟩
 refine wpAny_getItem_list_slice ht.isList hs pl pu .none (by simp) ?_ (by rw [size_toArray] <;> omega)
 rw [slicePick_cut, <- hlen]
 refine ⟨.ref s.heap.objs.size, _, I.laid (t' := s.toks) (o := .lst (cutV xs lo hi)) (fun b ob q => Heap.get?_push_of_some _ q) (Nat.le_refl _) ?_, rfl, q _ (I.hok.fresh (Nat.le_refl _))⟩
 exact ⟨Nat.le_trans (cutV_length xs lo hi) hz, _, 0, (r.drop (HT.sIx xs.length 0 lo)).take (HT.sIx xs.length xs.length hi - HT.sIx xs.length 0 lo), Heap.get?_push_size _ rfl⟩
theorem call_len_seq : CallR X (.builtin "len") (fun xs H Q => ∃ p ys, xs = [.ref p] /\ (SqL X.K H p ys \/ SqT X.K H p ys) /\ Q (.int ys.length) H) := by
 intro pins s σ H xs us Q I r h
 obtain ⟨p, ys, rfl, hq, q⟩ := h
 obtain ⟨u, rfl, rx⟩ := vals1 r
 cases rx
 have hn := line63
 rcases hq with hq | hq
 ·obtain ⟨its, r', pl, hz⟩ := I.list hq
  have hlen := r'.length
  exact Calls.call_len_list pl.isList (by simp only [size_toArray] <;> omega) ⟨.int ys.length, H, I.tok _, ⟨s.toks + 1, by rw [size_toArray, hlen]⟩, q⟩
 ·obtain ⟨its, r', pl, hz⟩ := I.tuple hq
  have hlen := r'.length
  exact len_tuple pl (by simp only [size_toArray] <;> omega) ⟨.int ys.length, H, I.tok _, ⟨s.toks + 1, by rw [size_toArray, hlen]⟩, q⟩
theorem CallR.or {f : Value} {r r' : List V -> Hp -> VK -> Prop} (h : CallR X f r) (h' : CallR X f r') : CallR X f (fun xs H Q => r xs H Q \/ r' xs H Q) := by
 intro pins s σ H xs us Q I rs q
 rcases q with q | q
 ·exact h pins s σ H xs us Q I rs q
 ·exact h' pins s σ H xs us Q I rs q
theorem call_list_of : CallR X (.type "list") (fun xs H Q => ∃ p ys, xs = [.ref p] /\ (SqL X.K H p ys \/ SqT X.K H p ys) /\ ∀ l, H l = none -> Q (.ref l) (upd H l (.lst ys))) := by
 intro pins s σ H xs us Q I r h
 obtain ⟨p, ys, rfl, hq, q⟩ := h
 obtain ⟨u, rfl, rx⟩ := vals1 r
 cases rx
 have fin : ∀ (its : List Value), Vals ys its -> ys.length <= sizeLine -> ∀ (h' : Heap) (c' : Nat), (∀ b o', s.heap.get? b = some o' -> h'.get? b = some o') ->
   h'.get? s.heap.objs.size = some { cls := .type "list", dict := none, data := .seq its.toArray c', slots := #[] } -> EP X pins σ Q (.ref s.heap.objs.size) { s with heap := h' } := fun its r' hz h' c' kp e =>
  ⟨.ref s.heap.objs.size, _, I.laid (t' := s.toks) kp (Nat.le_refl _) (show ObjOk X.prog X.w _ h' _ (.lst ys) from ⟨hz, its, c', r', e⟩), rfl, q _ (I.hok.fresh (Nat.le_refl _))⟩
 rcases hq with hq | hq
 ·obtain ⟨its, r', pl, hz⟩ := I.list hq
  have hlen := r'.length
  obtain ⟨o, ho, hc, n, hd⟩ := pl.isList
  exact call_list_seq p (.inl rfl) ho hc hd (fun h' c' kp e => fin its r' hz h' c' kp e) (by simp only [size_toArray] <;> omega)
 ·obtain ⟨its, r', pl, hz⟩ := I.tuple hq
  have hlen := r'.length
  obtain ⟨o, ho, hc, n, hd⟩ := pl
  exact call_list_seq p (.inr rfl) ho hc hd (fun h' c' kp e => fin its r' hz h' c' kp e) (by simp only [size_toArray] <;> omega)
def tyV (K : W.Frag) (T : String) (x : V) (H : Hp) : Prop := match x with
 | .str _ => T = "str"
 | .int _ => T = "int"
 | .ref p => (T = "list" /\ ∃ xs, SqL K H p xs) \/ (T = "tuple" /\ ∃ o, K.lookup p = some o /\ o.cls = .type "tuple" /\ o.dict = none) \/
   (T = "dict" /\ ((∃ kvs, H p = some (.dK kvs)) \/ ∃ kvs, H p = some (.dT kvs))) \/ (T = "set" /\ ∃ S n, H p = some (.set S n))
 | _ => False
theorem tyV_is {pins : List (Addr × Obj)} {σ : St} {H : Hp} {s : Shared} {T : String} {x : V} {v : Value} (I : Inv X pins σ H s) (r : RelV x v) (ty : tyV X.K T x H) :
  s.TypeIs v T /\ ∀ a, v = .ref a -> ∃ ob, s.heap.get? a = some ob /\ ob.dict = none := by
 cases x with
 | str z =>
  obtain ⟨t, rfl⟩ := r
  cases (show T = "str" from ty)
  exact ⟨typeIs_str s z t, fun _ e => nomatch e⟩
 | int i =>
  obtain ⟨t, rfl⟩ := r
  cases (show T = "int" from ty)
  exact ⟨typeIs_int s i t, fun _ e => nomatch e⟩
 | ref p =>
  cases r
  rcases ty with ⟨rfl, xs, hq⟩ | ⟨rfl, o, hk, hc, hd⟩ | ⟨rfl, hk⟩ | ⟨rfl, S, n, hk⟩
  ·obtain ⟨its, _, pl, _⟩ := I.list hq
   refine ⟨pl.isList.typeIs, fun a e => ?_⟩
   cases e
   obtain ⟨o, n, e, c, hd, _⟩ := pl
   exact ⟨o, e, hd⟩
  ·refine ⟨⟨o, I.kIn p o hk, hc⟩, fun a e => ?_⟩
   cases e
   exact ⟨o, I.kIn _ o hk, hd⟩
  ·have z : ∃ o, s.heap.get? p = some o /\ o.ExactDict := by
    rcases hk with ⟨kvs, hk⟩ | ⟨kvs, hk⟩
    ·obtain ⟨_, _, _, _, o, _, _, e, ex, _⟩ := I.hok p _ hk
     exact ⟨o, e, ex⟩
    ·obtain ⟨_, _, _, _, o, _, _, e, ex, _⟩ := I.hok p _ hk
     exact ⟨o, e, ex⟩
   obtain ⟨o, e, ex⟩ := z
   refine ⟨⟨o, e, ex.1⟩, fun a e2 => ?_⟩
   cases e2
   exact ⟨o, e, ex.2.1⟩
  ·obtain ⟨o, _, _, _, e, ex, _⟩ := I.hok p _ hk
   refine ⟨⟨o, e, ex.1⟩, fun a e2 => ?_⟩
   cases e2
   exact ⟨o, e, ex.2.1⟩
 | _ => exact False.elim ty
def tBM (K : W.Frag) (T : String) (r : V -> List V -> Hp -> VK -> Prop) (to : TE) (t : TA) : TE := fun σ H Q => to σ H fun x H1 => tyV K T x H1 /\ t σ H1 fun xs H2 => r x xs H2 Q
variable {o e : Expr} {es : List Expr} {to : TE} {t : TA} {name : Str} {apos cpos : Pos} {T id : String} {r : V -> List V -> Hp -> VK -> Prop}
theorem pe_bm (pa : PlainAttrs T) (slot : Slot T name id) (hty : typeOf (.builtin id) = pure (.type "method_descriptor")) (hm : MtR X id r) (ho : PE X o to) (ha : PA X (e :: es) t)
  (hbase : attributeBase o name X.env (eval o X.env) = eval o X.env := by rfl)
  (hfew : ((backTo cpos (starEach (e :: es) X.env)).all (fun x => !x.1) && (backToKw cpos (keywordEach [] X.env)).all (fun x => x.1.isSome)
   && decide ((e :: es).length + ([] : List Keyword).length + (if ([] : List Keyword).isEmpty then 0 else 1) < 30)) = true := by rfl)
  (hline : (apos.endLine == cpos.line) = true := by rfl) (hs : starEach (e :: es) X.env = (false, eval e X.env) :: starEach es X.env := by rfl) (hplain : (backTo cpos (starEach es X.env)).any (·.1) = false := by rfl) :
  PE X (.Call (.Attribute o name apos) (e :: es) [] cpos) (tBM X.K T r to t) := by
 intro pins s σ H Q I h
 refine wpAny_Call_method_late hbase hfew hline rfl (thn (ho pins s σ H _ I h) fun v s1 hpat => ?_)
 obtain ⟨x, H1, I1, r1, ty, q1⟩ := hpat
 obtain ⟨h1, h2⟩ := tyV_is I1 r1 ty
 refine ⟨T, id, pa, slot, hty, h1, h2, ?_⟩
 have hA := ha cpos pins s1 σ H1 _ I1 q1
 rw [hs] at hA ⊢
 refine Calls.callWith_builtin (by show (false || (backTo cpos (starEach es X.env)).any (·.1)) = false; rw [hplain] <;> rfl) (Calls.evalArgs_plain ?_)
 exact thn hA fun us s2 ⟨vs, H2, I2, r2, q2⟩ => hm pins s2 σ H2 x vs v us Q I2 r1 r2 q2
end
end
section
def MtM (X : Cx) (id : String) (r : V -> List V -> Hp -> VK -> Prop) : Prop :=
 ∀ (pins : List (Addr × Obj)) (s : Shared) (σ : St) (H : Hp) (x : V) (xs : List V) (v : Value) (us : List Value) (Q : VK), Inv X pins σ H s -> RelV x v -> Vals xs us -> r x xs H Q ->
  wpAny (model X.prog X.w) X.A (call (.builtin id) (v :: us)) (EP X pins σ Q) X.xe s
theorem Vals.one : ∀ {x : V} {us : List Value}, Vals [x] us -> ∃ u, us = [u] /\ RelV x u
 | _, _, .cons r .nil => ⟨_, rfl, r⟩
theorem Vals.zero : ∀ {us : List Value}, Vals [] us -> us = []
 | _, .nil => rfl
theorem Vals.eraseIdx : ∀ {xs : List V} {us : List Value} (i : Nat), Vals xs us -> Vals (xs.eraseIdx i) (us.eraseIdx i)
 | _, _, _, .nil => .nil
 | _, _, 0, .cons _ t => t
 | _, _, i + 1, .cons r t => .cons r (Vals.eraseIdx i t)
theorem Vals.reverse {xs : List V} {us : List Value} (h : Vals xs us) : Vals xs.reverse us.reverse := by
 induction h with
 | nil => exact .nil
 | cons r t ih => rw [reverse_cons, reverse_cons]; exact Vals.append ih (.cons r .nil)
theorem Vals.rep {xs : List V} {us : List Value} (h : Vals xs us) : ∀ k : Nat, Vals (List.replicate k xs).flatten (List.replicate k us).flatten
 | 0 => .nil
 | k + 1 => by
  rw [replicate_succ, replicate_succ, flatten_cons, flatten_cons]
  exact Vals.append h (Vals.rep h k)
section
variable {X : Cx} {pins : List (Addr × Obj)} {σ : St} {H : Hp} {s : Shared} {l b : Addr} {xs ys zs : List V}
theorem Inv.lset {its its' : List Value} {n : Nat} {f : Array Value -> Array Value} {t' : Nat} (I : Inv X pins σ H s) (hH : H l = some (.lst xs))
  (e : s.heap.get? l = some { cls := .type "list", data := .seq its.toArray n }) (hf : f its.toArray = its'.toArray) (hv : Vals ys its') (hz : ys.length <= sizeLine) :
  Inv X pins σ (upd H l (.lst ys)) { s with heap := s.heap.update l (Obj.mapSeq f), toks := t' } := by
 have q := PySem.IsL.update e f
 rw [hf] at q
 refine I.write (x := l) (e := l) (by rw [hH]; exact trivial) (.inl rfl) (fun b' u hb hu => (Heap.get?_update_other s.heap (Obj.mapSeq f) (Ne.symm hb)).trans hu) ⟨_, q⟩ ?_
 exact ⟨hz, its', _, hv, q⟩
theorem Inv.lnew {its : List Value} {t' : Nat} (I : Inv X pins σ H s) (hv : Vals ys its) (hz : ys.length <= sizeLine) :
  Inv X pins σ (upd H s.heap.objs.size (.lst ys)) { s with heap := s.heap.push { cls := .type "list", data := .seq its.toArray }, toks := t' } :=
 I.laid (fun _ _ q => Heap.get?_push_of_some _ q) (Nat.le_refl _) ⟨hz, its, 0, hv, Heap.get?_push_size _ rfl⟩
theorem Inv.fresh (I : Inv X pins σ H s) : H s.heap.objs.size = none := I.hok.fresh (Nat.le_refl _)
theorem Inv.lstM (I : Inv X pins σ H s) (hH : H l = some (.lst xs)) : xs.length <= sizeLine /\ ∃ (its : List Value) (n : Nat), Vals xs its /\ xs.length = its.length /\ s.heap.get? l = some { cls := .type "list", data := .seq its.toArray n } := by
 obtain ⟨z, its, n, r, e⟩ := I.hok l _ hH
 exact ⟨z, its, n, r, r.length, e⟩
end
section
variable {X : Cx}
def rAppend : V -> List V -> Hp -> VK -> Prop := fun x vs H Q => ∃ l xs y, x = .ref l /\ vs = [y] /\ H l = some (.lst xs) /\ xs.length < sizeLine /\ Q .non (upd H l (.lst (xs ++ [y])))
theorem mt_append : MtM X "list.append" rAppend := by
 intro pins s σ H x vs v us Q I rx rv h
 obtain ⟨l, xs, y, rfl, rfl, hH, hz, q⟩ := h
 cases rx
 obtain ⟨u, rfl, ru⟩ := rv.one
 obtain ⟨z, its, n, r, hl, e⟩ := I.lstM hH
 refine call_meets F.slot_list_append ⟨_, e, rfl⟩ F.entry_list_append (F.args_list_append_2 _ _) (PySem.list_append l its.toArray n u (by rw [size_toArray]; omega)) ⟨e, ?_⟩
 refine ⟨.non, _, I.lset (its' := its ++ [u]) hH e (by simp) (r.append (.cons ru .nil)) ?_, rfl, q⟩
 rw [length_append, length_singleton]
 omega
end
section
variable {prog : Program} {w : World} {A : Around} {E : Value -> Shared -> Prop} {s : Shared}
end
section
variable {X : Cx}
end
end
end L2
namespace Att
open PySem PySem.W PySem.Calls PyProof.Rows
theorem ints_of_wellAll {P : Params} {h : Heap} : ∀ (ns : List Int) (vs : List Value), WellAll P h vs (ns.map WData.int) -> IntsAre vs ns := by
 intro ns
 induction ns with
 | nil =>
  intro vs w
  rw [List.map_nil] at w
  cases w
  exact .nil
 | cons n ns ih =>
  intro vs w
  rw [List.map_cons] at w
  cases w with
  | cons a b =>
   cases a
   exact .cons _ _ (ih _ b)
theorem script_of {l : OpenLaw} {n : Nat} (hn : l.most = some n) {P : Params} {h : Heap} {args : List WData} {vals : List Value}
  (hpre : l.row.toRowW.claim.pre args = true) (hwl : WellAll P h vals args) :
  ∃ a vs ns, vals = [Value.ref a] /\ args = [WData.list (ns.map WData.int)] /\ h.get? a = some { cls := .type "list", data := .seq vs.toArray } /\ IntsAre vs ns /\ ns.length <= n := by
 have hsh : WShape.hasAll [] args [.list .int] = true := (pre_splitW hpre).1
 have hc : l.pre.holds [] { args := args } = true := (pre_splitW hpre).2
 obtain ⟨d, r, rfl, h1, h2⟩ := hasAllW_cons hsh
 obtain rfl := hasAllW_nil h2
 obtain ⟨xs, rfl, h3⟩ := hasW_list h1
 obtain ⟨ns, rfl⟩ := items_int h3
 have hlen : ns.length <= n := by
  unfold OpenLaw.pre at hc
  have h4 : (WTm.not (.lt (.lit (.int (n : Int))) (.len (.arg 0)))).holds [] { args := [.list (ns.map .int)] } = true := by
   have h4 := (holds_andW hc).1
   rw [hn] at h4
   exact h4
  have h5 := condW_of h4 (w_not (w_lt w_lit (w_len_list (w_arg rfl))))
  rw [List.length_map] at h5
  refine Nat.le_of_not_lt fun q => ?_
  have q' : (n : Int) < ((ns.length : Nat) : Int) := by omega
  first
   | (rw [decide_eq_true q'] at h5; exact absurd h5 (by decide))
   | (simp at h5; omega)
 cases hwl with
 | cons w1 w2 =>
  cases w2
  cases w1 with
  | list ho hall => exact ⟨_, _, ns, rfl, rfl, ho, ints_of_wellAll ns _ hall, hlen⟩
theorem post_true (l : OpenLaw) (args : List WData) : l.row.toRowW.claim.post args (.bool true) args = true :=
 postW_of (r := l.row.toRowW) (X := (true == true))
  (show WShape.has [] (.bool true) .bool = true by first | rfl | decide | simp [WShape.has, WShape.arms, WShape.armsAll])
  (show (WTm.eq .res (.lit (.bool true))).value [] { args := args, res := some (.bool true), after := args } = some (.bool (true == true)) from w_eq_bool (w_res rfl) w_lit) rfl
theorem attach_call {l : OpenLaw} {n : Nat} {q : Program} {loose : List Str} {XP : (Str -> Option Value) -> Heap -> Prop} {YP : World -> Heap -> Prop} {d : DefRec}
  (hn : l.most = some n) (hdf : d.params.defaults = [])
  (call : ∀ (w : World) (s₀ s₁ : Shared) (mg mb : Str -> Option Value) (fa : Addr) (o : Obj) (pm cd doc : Value) (a : Addr) (vs : List Value) (ns : List Int),
   Ground q loose [] XP w s₀ mg mb s₁.heap -> YP w s₁.heap ->
   s₁.heap.get? fa = some o -> o.data = .func (docDef d.name d.params d.body d.scope pm cd doc) -> s₁.heap.CodeRec cd d.name -> mg d.name = some (.ref fa) ->
   s₁.heap.get? a = some { cls := .type "list", data := .seq vs.toArray } -> IntsAre vs ns -> ns.length <= n -> s₁.gens = #[] ->
   codeAny (model l.prog w) callerA (.call (.ref fa) ⟨[.ref a], []⟩) (fun r s' => r = .ok (.ret (.bool true)) /\ OldK s₁.heap s'.heap /\ s'.os = s₁.os /\ AllBare s'.gens) s₁) :
  WalkO q loose XP YP l.row.toRowW d [] (fun f vs => PySem.call f vs) := by
 intro w s₀ s₁ mg mb G Y fa o pm cd doc dV kV ho hd hcd hD hmg hg args vals as hpre hlay hrd hwl hlo
 obtain rfl : dV = .none := Dflts.none hD hdf
 obtain rfl : kV = .none := Dflts.noKw hD
 obtain ⟨a, vs, ns, rfl, rfl, hobj, hints, hlen⟩ := script_of hn hpre hwl
 refine enter_call (codeAny_mono (call w s₀ s₁ mg mb fa o pm cd doc a vs ns G Y ho (fd_plain hd) hcd hmg hobj hints hlen hg) fun r s' hq => ?_)
 obtain ⟨rfl, h2, h3, h4⟩ := hq
 exact ⟨.inl ⟨.bool true, .bool true, [], rfl, fun _ => rfl, .bool true, post_true l _, fun _ => ⟨List.Pairwise.nil, fun _ hm => (nomatch hm)⟩⟩, h2, h3, h4⟩
section
variable {prog : Program} {w : World} {A : Around} {E : Value -> Shared -> Prop} {s : Shared} {K : Frag}
end
end Att
namespace L2
open List
open PySem PySem.Spec PyProof.Rows
section
theorem vals_ints : ∀ {vs : List Value} {ns : List Int}, IntsAre vs ns -> Vals (ns.map V.int) vs
 | _, _, .nil => .nil
 | _, _, .cons n t h => .cons ⟨t, rfl⟩ (vals_ints h)
def Only (H : Hp) : Prop := ∀ b, H b = none \/ ∃ o xs, H b = some (.frz o (.lst xs))
theorem law_call {P : Program} {w : World} {K : W.Frag} {mg mb : Str -> Option Value} {CX : CXT} {k : Nat} {fa a : Addr} {fd : FuncData} {x : Str} {sp : Sp} {s₁ : Shared} {vs : List Value} {ns : List Int}
  (KX : K.In s₁.heap) (hns : s₁.heap.Ns mainGlobals mg) (hb : s₁.heap.Ns builtinsNs mb) (hbb : ∀ x : Str, x ≠ "__name__" -> mb x = bootBuiltins x) (hlim : s₁.heap.NoLimit) (hg : s₁.gens = #[])
  (ha : s₁.heap.get? a = some { cls := .type "list", data := .seq vs.toArray }) (hi : IntsAre vs ns) (hl : ns.length <= sizeLine) (hr : Room k callerA)
  (F : ∀ base : Heap, K.In base -> base.Ns mainGlobals mg -> FnOk P w K mg base CX k fa fd [x] sp) (hbind : ∀ (s : Shared) (u : Value), BindsTo s fd ⟨[u], []⟩ [(x, u)])
  (hsp : ∀ H : Hp, Only H -> SqL K H a (ns.map V.int) -> sp [.ref a] H (fun v _ => v = .bl true) fun _ _ _ => False)
  (hCX : ∀ H e s', CX [] H s₁ (fun _ _ _ => False) e s' -> False) :
  codeAny (model P w) callerA (.call (.ref fa) ⟨[.ref a], []⟩) (fun r s' => r = .ok (.ret (.bool true)) /\ OldK s₁.heap s'.heap /\ s'.os = s₁.os /\ AllBare s'.gens) s₁ := by
 have rv := vals_ints hi
 have lenV := hi.length
 have core : ∀ H : Hp, Only H -> SqL K H a (ns.map V.int) -> HOk P w H s₁.heap -> (∀ b, H b ≠ none -> b = a) -> (H a ≠ none -> K.lookup a = none) ->
   codeAny (model P w) callerA (.call (.ref fa) ⟨[.ref a], []⟩) (fun r s' => r = .ok (.ret (.bool true)) /\ OldK s₁.heap s'.heap /\ s'.os = s₁.os /\ AllBare s'.gens) s₁ := by
  intro H hO hS hok hA hK
  have base_of : ∀ {b : Addr} {o : Obj}, s₁.heap.get? b = some o -> H b = none -> (hidT s₁.heap H).get? b = some o := fun e n => hidT_get e n
  have noA : ∀ {b : Addr} {o : Obj} {es : Array DictEntry} {ep : Nat}, s₁.heap.get? b = some o -> o.data = .dict es ep -> H b = none := fun {b o es ep} e d => by
   cases q : H b with
   | none => rfl
   | some u =>
    have e' : b = a := hA b (by rw [q]; simp)
    subst e'
    rw [ha] at e; cases e
    have d' : Data.seq vs.toArray _ = Data.dict es ep := d
    cases d'
  have nsK : ∀ {b : Addr} {m : Str -> Option Value}, s₁.heap.Ns b m -> (hidT s₁.heap H).Ns b m := fun {b m} ⟨o, es, ep, e, d, r⟩ => ⟨o, es, ep, base_of e (noA e d), d, r⟩
  have hKb : K.In (hidT s₁.heap H) := fun b o e => base_of (KX b o e) (by
   cases q : H b with
   | none => rfl
   | some u =>
    have e' : b = a := hA b (by rw [q]; simp)
    subst e'
    rw [hK (by rw [q]; simp)] at e; cases e)
  have hM : Mod K mg (hidT s₁.heap H) := ⟨hKb, nsK hns, ⟨mb, nsK hb, hbb⟩, let ⟨mc, h1, h2⟩ := hlim; ⟨mc, nsK h1, h2⟩⟩
  have e0 : Env0 P w K mg (hidT s₁.heap H) callerA [] s₁ H := ⟨rfl, hM, fun b o e => of_hidT e, Nat.le_of_eq (hidT_size _ _), trivial, fun b hb => absurd (show b ∈ ([] : List Addr) from hb) (by simp), hok, .of_eq hg⟩
  refine codeAny_mono ((F _ hKb (nsK hns)).run callerA [] s₁ H ⟨[.ref a], []⟩ [.ref a] [.ref a] _ _ hr e0 (hbind s₁ (.ref a)) (.cons rfl .nil) (hsp H hO hS)) fun r s' h => ?_
  cases r with
  | error e => exact (hCX H e s' h).elim
  | ok fl =>
   cases fl with
   | next => exact False.elim h
   | brk => exact False.elim h
   | cont => exact False.elim h
   | ret u =>
    obtain ⟨v, H', os, bare, un, hok', r', q⟩ := h
    have q' : v = .bl true := q
    subst q'
    obtain rfl : u = Value.bool true := r'
    refine ⟨rfl, OldK.of_keep fun b o e => ?_, os, bare⟩
    cases q : H b with
    | none => exact un.keep b o e q (by intro z; exact absurd (show b ∈ ([] : List Addr) from z) (by simp)) (by simp)
    | some u =>
     rcases hO b with z | ⟨ob, xs, z⟩
     ·rw [q] at z; cases z
     ·have z2 := un.frzs b ob _ z
      obtain ⟨e1, _⟩ := hok b _ z
      obtain ⟨e2, _⟩ := hok' b _ z2
      rw [e] at e1; cases e1
      exact e2
 cases hk : K.lookup a with
 | some o =>
  have e := KX a o hk
  rw [ha] at e
  cases e
  refine core (fun _ => none) (fun _ => .inl rfl) (.inr ⟨_, vs.toArray, _, hk, rfl, rfl, rfl, by rw [size_toArray, lenV]; exact hl, by simpa using rv⟩) (fun b u z => by have z' : (none : Option HO) = some u := z; cases z') (fun b z => absurd rfl z) fun z => absurd rfl z
 | none =>
  refine core (fun b => if b = a then some (.frz { cls := .type "list", data := .seq vs.toArray } (.lst (ns.map V.int))) else none) (fun b => ?_) (.inl (.inr ⟨{ cls := .type "list", data := .seq vs.toArray }, if_pos rfl⟩)) (fun b u z => ?_) (fun b z => ?_) fun _ => hk
  ·by_cases hb : b = a
   ·exact .inr ⟨_, _, if_pos hb⟩
   ·exact .inl (if_neg hb)
  ·by_cases hb : b = a
   ·have z' := (if_pos hb).symm.trans z
    cases z'
    subst hb
    exact ⟨ha, by rw [length_map]; exact hl, vs, _, rv, ha⟩
   ·have z' := (if_neg hb).symm.trans z
    cases z'
  ·by_cases hb : b = a
   ·exact hb
   ·exact absurd (if_neg hb) z
end
section
abbrev KOf {K : W.Frag} {h : Heap} (_ : K.In h) : W.Frag := K
theorem walk_of {l : W.OpenLaw} {n k : Nat} {q : Program} {loose : List Str} {XP : (Str -> Option Value) -> Heap -> Prop} {YP : World -> Heap -> Prop} {d : DefRec} {K : Params -> W.Frag} {CX : World -> CXT} {sp : World -> Sp} {x : Str}
  (hn : l.most = some n) (hn2 : n <= sizeLine) (hdf : d.params.defaults = []) (hr : Room k callerA)
  (hY : ∀ (w : World) (h : Heap), YP w h -> (K w.params).In h)
  (F : ∀ (w : World) (mg : Str -> Option Value) (fa : Addr) (h : Heap), (K w.params).In h -> h.Ns mainGlobals mg -> mg d.name = some (.ref fa) ->
   ∃ fd : FuncData, (∀ (s : Shared) (u : Value), BindsTo s fd ⟨[u], []⟩ [(x, u)]) /\
    ∀ base : Heap, (K w.params).In base -> base.Ns mainGlobals mg -> FnOk l.prog w (K w.params) mg base (CX w) k fa fd [x] (sp w))
  (hsp : ∀ (w : World) (H : Hp) (a : Addr) (ns : List Int), ns.length <= n -> Only H -> SqL (K w.params) H a (ns.map V.int) -> sp w [.ref a] H (fun v _ => v = .bl true) fun _ _ _ => False)
  (hCX : ∀ (w : World) (H : Hp) (s : Shared) (e : Value) (s' : Shared), CX w [] H s (fun _ _ _ => False) e s' -> False) :
  W.WalkO q loose XP YP l.row.toRowW d [] (fun f vs => PySem.call f vs) := by
 refine Att.attach_call hn hdf fun w s₀ s₁ mg mb fa o pm cd doc a vs ns G Y ho hd hcd hmg hobj hints hlen hg => ?_
 have KX := hY w _ Y
 obtain ⟨fd, hb, hF⟩ := F w mg fa _ KX G.T.g hmg
 exact law_call KX G.T.g G.T.b G.T.builtins G.T.nolimit hg hobj hints (Nat.le_trans hlen hn2) hr hF hb (fun H hO hS => hsp w H a ns hlen hO hS) fun H e s' => hCX w H s₁ e s'
end
section
def defArgs (s : Stmt) : Arguments := match s with
 | .FunctionDef _ a _ _ _ _ _ _ _ _ => a
 | _ => { posonlyargs := [], args := [], vararg := none, kwonlyargs := [], kw_defaults := [], kwarg := none, defaults := [] }
def defBody (s : Stmt) : List Stmt := match s with
 | .FunctionDef _ _ b _ _ _ _ _ _ _ => b
 | _ => []
def defScope (s : Stmt) : Scope := match s with
 | .FunctionDef _ _ _ _ _ _ sc _ _ _ => sc
 | _ => { kind := .function, names := [], isGenerator := false, isCoroutine := false }
abbrev CX0 : CXT := fun _ _ _ _ _ _ => False
abbrev E0 : XK := fun _ _ _ => False
theorem pass0 {X : Cx} : Passes CX0 X E0 := fun _ _ _ _ _ _ _ h => h.elim
structure Fun (K : W.Frag) (x qual : Str) (st : Stmt) (f : Addr) (fd : FuncData) : Prop where
 ex : ∃ (oc : Value) (od : Option Addr) (kV doc pm : Value) (an : Option Addr) (cdv ct : Value) (osl : Array (Option Value)),
  fd = W.fnOf x qual (defArgs st) (defBody st) (defScope st) .none kV doc pm an cdv ct /\ K.lookup f = some ⟨oc, od, .func fd, osl⟩ /\ W.codeIn K cdv qual = true
 kp : W.keepIn K (.ref f) = true
section
variable {P : Program} {w : World} {K : W.Frag} {mg : Str -> Option Value} {base : Heap}
theorem Fun.ok {x qual : Str} {st : Stmt} {f : Addr} {fd : FuncData} {N ps : List Str} {k : Nat} {sp : Sp} (F : Fun K x qual st f fd) (S : FnScope N ps (defScope st)) (len : ∀ vs H Q E, sp vs H Q E -> vs.length = ps.length)
  (hbody : ∀ (cdv : Value) (A : Around) (outer : List Env) (s : Shared) (H : Hp) (vs : List V) (Q : VK) (E : XK), Room k (A.deeper (envOfC qual (defScope st) s.heap.objs.size f cdv)) -> sp vs H Q E ->
   ∃ t, PSs (cxOf CX0 P w K mg base N qual (defScope st) f cdv A outer s H E).nox (defBody st) t /\ t { nx := fun _ H' => Q .non H', rt := Q } (start N vs) H) : FnOk P w K mg base CX0 (k + 1) f fd ps sp := by
 obtain ⟨oc, od, kV, doc, pm, an, cdv, ct, osl, rfl, lk, hcd⟩ := F.ex
 refine fn_of lk hcd S len fun A outer s H vs Q E hr hsp => ?_
 obtain ⟨t, h, q⟩ := hbody cdv A outer s H vs Q E hr hsp
 exact ⟨t, h.nox, q⟩
theorem Fun.binds {x qual : Str} {st : Stmt} {f : Addr} {fd : FuncData} {ps : List Str} (F : Fun K x qual st f fd)
  (h : ∀ (kV doc pm : Value) (an : Option Addr) (cdv ct : Value) (us : List Value), us.length = ps.length -> bindArgs (W.fnOf x qual (defArgs st) (defBody st) (defScope st) .none kV doc pm an cdv ct) ⟨us, []⟩ = pure (ps.zip us)) : Binds K fd ps [] := by
 obtain ⟨oc, od, kV, doc, pm, an, cdv, ct, osl, rfl, lk, hcd⟩ := F.ex
 exact .all (h kV doc pm an cdv ct)
theorem fun_mk {x qual : Str} {st : Stmt} {f : Addr} {oc : Value} {od an : Option Addr} {osl : Array (Option Value)} {kV doc pm cdv ct : Value} (l : K.lookup f = some ⟨oc, od, .func (W.fnOf x qual (defArgs st) (defBody st) (defScope st) .none kV doc pm an cdv ct), osl⟩)
  (c : W.codeIn K cdv qual = true) (k : W.keepIn K (.ref f) = true) : Fun K x qual st f (W.fnOf x qual (defArgs st) (defBody st) (defScope st) .none kV doc pm an cdv ct) := ⟨⟨oc, od, kV, doc, pm, an, cdv, ct, osl, rfl, l, c⟩, k⟩
end
section
variable {X : Cx}
theorem pv (i : Nat) {x : Str} {pos : Pos} (hN : X.N[i]? = some x := by rfl) (hv : Vis X.env.scope x := by first | exact Or.inl rfl | exact Or.inr (Or.inl rfl) | exact Or.inr (Or.inr rfl)) (hd : (x == ("__debug__" : Str)) = false := by decide)
  (hcd : (x == ("__classdict__" : Str)) = false := by decide) : PE X (.Name x pos) (tVar i) := pe_var hN hv hd hcd
end
theorem iteF {A B : Prop} (h : B) : if false = true then A else B := by
 rw [if_neg Bool.false_ne_true]
 exact h
theorem iteT {A B : Prop} (h : A) : if true = true then A else B := by
 rw [if_pos rfl]
 exact h
def Same (H H' : Hp) : Prop := ∀ b o, H b = some o -> H' b = some o
theorem Same.refl (H : Hp) : Same H H := fun _ _ h => h
theorem Same.trans {H H1 H2 : Hp} (a : Same H H1) (b : Same H1 H2) : Same H H2 := fun c o h => b c o (a c o h)
theorem Same.free {H H' : Hp} (e : Same H H') {l : Addr} (h : H' l = Option.none) : H l = Option.none := by
 cases q : H l with
 | none => rfl
 | some o =>
  rw [e l o q] at h
  cases h
theorem Same.seq {K : W.Frag} {H H' : Hp} {a : Addr} {xs : List V} (e : Same H H') (h : SqL K H a xs) : SqL K H' a xs := by
 rcases h with (h | ⟨o, h⟩) | h
 ·exact .inl (.inl (e _ _ h))
 ·exact .inl (.inr ⟨o, e _ _ h⟩)
 ·exact .inr h
end
section
def clOf (cells : List (Str × Addr)) : List (Str × NameKind) -> List (Str × Addr) -> List (Str × Addr)
 | [], cs => cs
 | (n, k) :: r, cs => if k = .free then (match cells.lookup n with | some c => clOf cells r ((n, c) :: cs) | none => clOf cells r cs) else clOf cells r cs
theorem closure_run {env : Env} : ∀ (names : List (Str × NameKind)) (cs : List (Str × Addr)), (∀ x ∈ names, x.2 = .free -> ∃ c, env.cells.lookup x.1 = some c) ->
  (forIn names cs fun x r => if (x.2 == NameKind.free) = true then do let c ← cellOf env x.1; pure (ForInStep.yield ((x.1, c) :: r)) else pure (ForInStep.yield r) : Sem (List (Str × Addr))) = pure (clOf env.cells names cs)
 | [], cs, _ => rfl
 | (n, k) :: r, cs, h => by
  have hr : ∀ x ∈ r, x.2 = .free -> ∃ c, env.cells.lookup x.1 = some c := fun x hx => h x (mem_cons_of_mem _ hx)
  rw [forIn_cons]
  by_cases hk : k = .free
  ·subst hk
   obtain ⟨c, hc⟩ := h (n, .free) mem_cons_self rfl
   have hc' : env.cells.lookup n = some c := hc
   have e : cellOf env n = pure c := by unfold cellOf; rw [hc']
   simp only [beq_self_eq_true, if_true, e, pure_bind]
   rw [closure_run r _ hr]
   simp only [clOf, if_true, hc']
  ·have hb : (k == NameKind.free) = false := by simpa using hk
   simp only [hb, Bool.false_eq_true, if_false, pure_bind]
   rw [closure_run r cs hr]
   simp only [clOf, hk, if_false]
theorem closureFor_clOf {env : Env} {scope : Scope} (h : ∀ x ∈ scope.names, x.2 = .free -> ∃ c, env.cells.lookup x.1 = some c) : closureFor scope env = pure (clOf env.cells scope.names []) := by
 have q := closure_run (env := env) scope.names [] h
 simp only [closureFor]
 refine Eq.trans ?_ q
 have e : ∀ (m : Sem (List (Str × Addr))), (m >>= fun cs => pure cs) = m := fun m => by simp
 first | (rw [e]; rfl) | rfl | simp
theorem clOf_sub {cells : List (Str × Addr)} {x : Str} {c : Addr} : ∀ (names : List (Str × NameKind)) (cs : List (Str × Addr)), (∀ y d, cs.lookup y = some d -> cells.lookup y = some d) -> (clOf cells names cs).lookup x = some c -> cells.lookup x = some c
 | [], cs, h, e => h x c e
 | (n, k) :: r, cs, h, e => by
  unfold clOf at e
  split at e
  ·split at e
   ·rename_i d hd
    refine clOf_sub r _ (fun y d' q => ?_) e
    rw [lookup_cons] at q
    split at q
    ·rename_i hy
     have : y = n := by simpa using hy
     subst this
     cases q; exact hd
    ·exact h y d' q
   ·exact clOf_sub r cs h e
  ·exact clOf_sub r cs h e
theorem clOf_mono {cells : List (Str × Addr)} {x : Str} : ∀ (names : List (Str × NameKind)) (cs : List (Str × Addr)), (cs.lookup x).isSome = true -> ((clOf cells names cs).lookup x).isSome = true
 | [], cs, h => h
 | (n, k) :: r, cs, h => by
  unfold clOf
  split
  ·split
   ·refine clOf_mono r _ ?_
    rw [lookup_cons]; split
    ·rfl
    ·exact h
   ·exact clOf_mono r cs h
  ·exact clOf_mono r cs h
theorem clOf_has {cells : List (Str × Addr)} {x : Str} {c : Addr} (hc : cells.lookup x = some c) : ∀ (names : List (Str × NameKind)) (cs : List (Str × Addr)), (x, NameKind.free) ∈ names -> ((clOf cells names cs).lookup x).isSome = true
 | [], cs, h => absurd h (by simp)
 | (n, k) :: r, cs, h => by
  unfold clOf
  rcases List.mem_cons.mp h with e | h
  ·cases e
   rw [if_pos rfl, hc]
   refine clOf_mono r _ ?_
   simp [lookup_cons]
  ·split
   ·split
    ·exact clOf_has hc r _ h
    ·exact clOf_has hc r cs h
   ·exact clOf_has hc r cs h
theorem lookup_relabel_free {env : Env} : ∀ {names : List (Str × NameKind)} {x : Str}, names.lookup x = some .free ->
  (names.map fun (n, k) => if (k == NameKind.free && env.scope.kind == .function && env.kindOf n == some .cell) then (n, NameKind.cell) else (n, k)).lookup x = some .cell \/
  (names.map fun (n, k) => if (k == NameKind.free && env.scope.kind == .function && env.kindOf n == some .cell) then (n, NameKind.cell) else (n, k)).lookup x = some .free
 | [], _, h => by simp at h
 | (n, k) :: r, x, h => by
  have ih := @lookup_relabel_free env r x
  show List.lookup x ((if (k == NameKind.free && env.scope.kind == .function && env.kindOf n == some .cell) = true then (n, NameKind.cell) else (n, k)) :: _) = _ \/ List.lookup x ((if (k == NameKind.free && env.scope.kind == .function && env.kindOf n == some .cell) = true then (n, NameKind.cell) else (n, k)) :: _) = _
  by_cases hc : (k == NameKind.free && env.scope.kind == .function && env.kindOf n == some .cell) = true
  ·rw [if_pos hc]
   cases hx : x == n with
   | true => left; simp only [lookup_cons, hx]
   | false => simp only [lookup_cons, hx] at h ⊢; exact ih h
  ·rw [if_neg hc]
   cases hx : x == n with
   | true => right; simp only [lookup_cons, hx] at h ⊢; exact h
   | false => simp only [lookup_cons, hx] at h ⊢; exact ih h
theorem relabel_free_mem {env : Env} : ∀ {names : List (Str × NameKind)} {x : Str} {k : NameKind}, (∀ y ∈ names, y.2 ≠ .cell) ->
  (names.map fun (n, k) => if (k == NameKind.free && env.scope.kind == .function && env.kindOf n == some .cell) then (n, NameKind.cell) else (n, k)).lookup x = some k -> (k = .cell \/ k = .free) -> (x, NameKind.free) ∈ names
 | [], _, _, _, h, _ => by simp at h
 | (n, k') :: r, x, k, hc0, h, hk => by
  have ih := @relabel_free_mem env r x k (fun y hy => hc0 y (mem_cons_of_mem _ hy))
  have h : List.lookup x ((if (k' == NameKind.free && env.scope.kind == .function && env.kindOf n == some .cell) = true then (n, NameKind.cell) else (n, k')) :: _) = _ := h
  by_cases hc : (k' == NameKind.free && env.scope.kind == .function && env.kindOf n == some .cell) = true
  ·rw [if_pos hc] at h
   have hf : k' = .free := by
    have := hc; simp only [Bool.and_eq_true] at this; simpa using this.1.1
   cases hx : x == n with
   | true =>
    have hxn : x = n := by simpa using hx
    subst hxn; subst hf; exact mem_cons_self
   | false => simp only [lookup_cons, hx] at h; exact mem_cons_of_mem _ (ih h hk)
  ·rw [if_neg hc] at h
   cases hx : x == n with
   | true =>
    have hxn : x = n := by simpa using hx
    subst hxn
    simp only [lookup_cons, hx] at h
    have e : k' = k := Option.some.inj h
    subst e
    rcases hk with hk | hk
    ·exact absurd hk (hc0 _ mem_cons_self)
    ·subst hk; exact mem_cons_self
   | false => simp only [lookup_cons, hx] at h; exact mem_cons_of_mem _ (ih h hk)
end
section
structure Blk (X : Cx) (sc : Scope) (N : List Str) (src : List (Option Nat)) : Prop where
 kind : sc.kind = .function
 nocell : ∀ y ∈ sc.names, y.2 ≠ .cell
 names : ∀ y ∈ sc.names, y.2 = .local -> sc.names.lookup y.1 = some .local
 free : ∀ y ∈ sc.names, y.2 = .free -> X.env.kindOf y.1 = some .cell \/ X.env.kindOf y.1 = some .free
 fv : ∀ (j i : Nat), src[j]? = some (some i) -> ∃ x, N[j]? = some x /\ X.N[i]? = some x /\ sc.names.lookup x = some .free
 len : src.length = N.length
def blk0 (src : List (Option Nat)) (σ : St) : St := src.map fun o => o.bind fun i => (σ[i]?).join
def blkCx (X : Cx) (sc : Scope) (C : Addr) (N : List Str) (fp : List Addr) (s : Shared) (H : Hp) : Cx where
 prog := X.prog
 w := X.w
 K := X.K
 mg := X.mg
 base := X.base
 A := X.A
 N := N
 s₀ := s
 H₀ := H
 env := compEnvC sc (clOf X.env.cells sc.names []) C X.env
 outer := X.stack
 stack := X.stack
 ex := fp
 fn := fun _ => false
 calm := true
 pn := []
 xe := fun _ _ => False
section
variable {X : Cx} {pins : List (Addr × Obj)} {σ : St} {H : Hp} {s : Shared}
theorem Blk.cl {sc : Scope} {N : List Str} {src : List (Option Nat)} (B : Blk X sc N src) (ok : X.Ok) : closureFor sc X.env = pure (clOf X.env.cells sc.names []) :=
 closureFor_clOf fun x hx hk => ok.has x.1 (B.free x hx hk)
theorem cl_sub {sc : Scope} {x : Str} {c : Addr} (h : (clOf X.env.cells sc.names []).lookup x = some c) : X.env.cells.lookup x = some c :=
 clOf_sub sc.names [] (fun y d e => by simp at e) h
theorem blk_start {sc : Scope} {N : List Str} {src : List (Option Nat)} {fp : List Addr} {D C : Addr} {h4 : Heap} {t : Nat} {m : Str -> Option Value}
  (B : Blk X sc N src) (I : Inv X pins σ H s) (hc : X.calm = true) (hf : ∀ b ∈ fp, FpOk X pins H b) (hfo : ∀ b ∈ fp, ∃ o, s.heap.get? b = some o)
  (hk : ∀ b o, s.heap.get? b = some o -> h4.get? b = some o) (hD : s.heap.objs.size <= D) (hDl : h4.get? D = some { cls := .type "list", data := .seq #[] 0 })
  (hn : h4.Ns C m) (hC : s.heap.objs.size <= C) (hDC : D ≠ C) :
  Inv (blkCx X sc C N fp s H) [] (blk0 src σ) (upd H D (.lst [])) { s with heap := h4, toks := t } := by
 have hHD : H D = none := I.hok.fresh hD
 have hHC : H C = none := I.hok.fresh hC
 have new : ObjOk X.prog X.w (upd H D (.lst [])) h4 D (.lst []) := ⟨Nat.zero_le _, [], 0, .nil, hDl⟩
 have cC : ∀ x c, X.env.cells.lookup x = some c -> c ≠ C := fun x c e z => by
  obtain ⟨v, q⟩ := I.cell x c e
  exact absurd (Nat.lt_of_lt_of_le q.lt (by rw [z]; exact hC)) (Nat.lt_irrefl _)
 have cD : ∀ x c, X.env.cells.lookup x = some c -> c ≠ D := fun x c e z => by
  obtain ⟨v, q⟩ := I.cell x c e
  exact absurd (Nat.lt_of_lt_of_le q.lt (by rw [z]; exact hD)) (Nat.lt_irrefl _)
 refine ⟨⟨I.ok.mod, ?_, I.ok.glob, I.ok.blt, hC, fun x y c h1 h2 => ?_, fun x hx => ?_, fun x c h _ => (by cases h), fun _ => I.ok.hd hc, I.ok.frames, .inl rfl, fun b hb => ⟨?_, fun x c e => ?_⟩, I.bs, Nat.le_trans I.ok.bsz I.sz, fun b o e hb => ?_, fun b hb z => ?_, I.stack, I.stkFree⟩,
  rfl, I.bare, Un.laid hk hD hHD, ⟨m, hn, fun i x v e1 e2 e3 => ?_⟩, fun x c e => ?_, ?_, fun x c e => ?_, fun p hp => ?_, I.hok.laid hk hD new, ?_⟩
 ·show (relabel sc X.env).kind = _
  exact B.kind
 ·exact I.ok.inj x y c (cl_sub h1) (cl_sub h2)
 ·have hx' : (∃ k, (relabel sc X.env).names.lookup x = some k /\ (k = .cell \/ k = .free)) := by
   rcases hx with hx | hx
   ·exact ⟨_, hx, .inl rfl⟩
   ·exact ⟨_, hx, .inr rfl⟩
  obtain ⟨k, e, hk'⟩ := hx'
  have hm := relabel_free_mem B.nocell e hk'
  obtain ⟨c, hc'⟩ := I.ok.has x (B.free _ hm rfl)
  exact Option.isSome_iff_exists.mp (clOf_has hc' sc.names [] hm)
 ·obtain ⟨o, e⟩ := hfo b hb
  exact Nat.ne_of_lt (Nat.lt_of_lt_of_le (Heap.lt_size e) hC)
 ·exact (hf b hb).2.2.2.2.1 x c (cl_sub e)
 ·rcases (hf b hb).2.2.2.1 with z | z
  ·exact I.ok.noex b o e z
  ·exact absurd (Nat.lt_of_lt_of_le (Heap.lt_size e) (Nat.le_trans I.ok.bsz z)) (Nat.lt_irrefl _)
 ·rcases List.mem_cons.mp (I.stkSub b z) with z | z
  ·exact (hf b hb).2.1 z
  ·exact (hf b hb).2.2.1 z
 ·have e2' : ∃ k, src[i]? = some (some k) /\ σ[k]? = some (some v) := by
   unfold blk0 at e2
   rw [getElem?_map] at e2
   cases q : src[i]? with
   | none => rw [q] at e2; cases e2
   | some o =>
    rw [q] at e2
    cases o with
    | none => cases e2
    | some k =>
     refine ⟨k, rfl, ?_⟩
     have e2 : (σ[k]?).join = some v := Option.some.inj e2
     cases qq : σ[k]? with
     | none => rw [qq] at e2; cases e2
     | some z => rw [qq] at e2; exact congrArg some e2
  obtain ⟨k, ek, ev⟩ := e2'
  obtain ⟨x', n1, n2, n3⟩ := B.fv i k ek
  have : x' = x := by
   have e1 : N[i]? = some x := e1
   rw [n1] at e1; exact Option.some.inj e1
  subst this
  obtain ⟨m0, hn0, hl0⟩ := I.loc
  have hfk := B.free (x', .free) (PySem.mem_of_lookup n3) rfl
  obtain ⟨u, r, l⟩ := hl0 k x' v n2 ev (by rcases hfk with z | z; exact .inr (.inl z); exact .inr (.inr z))
  refine ⟨u, r, .inr ⟨?_, ?_⟩⟩
  ·exact lookup_relabel_free n3
  ·rcases l with ⟨l, _⟩ | ⟨_, c, ec, z⟩
   ·rcases hfk with q | q <;> (rw [q] at l; cases l)
   ·obtain ⟨c', ec'⟩ := Option.isSome_iff_exists.mp (clOf_has ec sc.names [] (PySem.mem_of_lookup n3))
    have := cl_sub ec'
    rw [ec] at this; cases this
    obtain ⟨o, ho, hd⟩ := z
    exact ⟨c, ec', o, hk c o ho, hd⟩
 ·obtain ⟨v, o, ho, hd⟩ := I.cell x c (cl_sub e)
  exact ⟨v, o, hk c o ho, hd⟩
 ·show upd H D _ C = none
  rw [upd_ne (Ne.symm hDC)]; exact hHC
 ·rw [upd_ne (cD x c (cl_sub e))]; exact I.freeC x c (cl_sub e)
 ·exact absurd (show p ∈ ([] : List (Addr × Obj)) ++ [] from hp) (by simp)
 ·show (blk0 src σ).length = N.length
  unfold blk0; rw [length_map]; exact B.len
end
end
section
abbrev noE : Value -> Shared -> Prop := fun _ _ => False
theorem toE {α : Type} {t : Sem α} {Q Q' : α -> Shared -> Prop} {M : Model} {A : Around} {E : Value -> Shared -> Prop} {s : Shared} (h : wpAny M A t Q noE s) (hQ : ∀ a s, Q a s -> Q' a s) : wpAny M A t Q' E s :=
 wpAny_mono h hQ fun _ _ x => x.elim
abbrev compTests (ifs : List Expr) (env : Env) : Sem Bool := forIn ifs true fun c r => if r = true then do let ok ← isTrue c env (eval c env); pure (ForInStep.yield ok) else pure (ForInStep.yield r)
theorem compLoop_any {prog : Program} {w : World} {A : Around} {R : Result -> Shared -> Prop} {s : Shared} {elt target iter : Expr} {ifs : List Expr} {scope : Scope} {pos : Pos} {it acc : Value} {env : Env} (I : Nat -> Shared -> Prop)
  (turn : ∀ n s, I n s -> wpAny (model prog w) A (pyNext it) (fun r s₁ => match r with
   | none => R (.ok .next) s₁
   | some v => wpAny (model prog w) A (letOwnedTupleGo target it v) (fun _ s₁' => wpAny (model prog w) A (assign target env v) (fun _ s₂ =>
     wpAny (model prog w) A (compTests ifs env) (fun ok s₃ =>
      if ok = true then wpAny (model prog w) A (eval elt env) (fun x s₄ =>
       wpAny (model prog w) A (call (.builtin "list.append") [acc, x]) (fun _ s₅ => ∃ m, m < n /\ I m s₅) noE s₄) noE s₃
      else ∃ m, m < n /\ I m s₃) noE s₂) noE s₁') noE s₁) noE s)
  (n : Nat) (h : I n s) :
  codeAny (model prog w) A (.compLoop (.ListComp elt [⟨target, iter, ifs, 0⟩] scope pos) 0 it acc env) R s := by
 refine codeAny_loop rfl I (fun n s hI => ?_) n h
 show wpAny _ A ((compTurn (.ListComp elt [⟨target, iter, ifs, 0⟩] scope pos) 0 it acc env).onRaise (fun x => do noteFrame x env; theTreesLotGoes x)) _ _ s
 refine wpAny_noted ?_
 rw [compTurn_list]
 refine wpAny_bind (wpAny_standAt (wpAny_bind (toE (turn n s hI) (fun r s₁ h₁ => ?_))))
 cases r with
 | none => exact wpAny_pure h₁
 | some v =>
  refine wpAny_bind (toE h₁ fun _ s₁' h₁' => ?_)
  refine wpAny_bind (toE h₁' (fun _ s₂ h₂ => wpAny_bind (toE h₂ (fun ok s₃ h₃ => ?_))))
  cases ok with
  | false => exact wpAny_pure ⟨rfl, h₃⟩
  | true =>
   exact wpAny_bind (wpAny_bind (toE h₃ (fun x s₄ h₄ => wpAny_bind (toE h₄ (fun _ s₅ h₅ => wpAny_pure (wpAny_pure ⟨rfl, h₅⟩))))))
def PTs (X : Cx) (ifs : List Expr) (t : TT) : Prop :=
 ∀ (pins : List (Addr × Obj)) (s : Shared) (σ : St) (H : Hp) (Q : Bool -> Hp -> Prop), Inv X pins σ H s -> t σ H Q -> wpAny (model X.prog X.w) X.A (compTests ifs X.env) (TP X pins σ Q) X.xe s
def tYes : TT := fun _ H Q => Q true H
theorem pts_nil {X : Cx} : PTs X [] tYes := fun pins s σ H Q I h => wpAny_pure ⟨H, I, h⟩
theorem pts_one {X : Cx} {c : Expr} {t : TT} (h : PT X c t) : PTs X [c] t := fun pins s σ H Q I q => wpAny_tests_one (h pins s σ H Q I q)
def tComp (src : List (Option Nat)) (wi : TI) (g : TG) (tc : TT) (te : TE) : TE := fun σ H Q => wi σ H fun J H1 => ∀ D, H1 D = none -> ∃ W : Nat -> Nat -> St -> Hp -> Prop, (∃ m, W 0 m (blk0 src σ) (upd H1 D (.lst []))) /\ ∀ i m σ' H', W i m σ' H' ->
 (J.stop i H' /\ Q (.ref D) H') \/ (J.go i H' /\ ∃ N : St -> Hp -> Prop, (∀ σ2 H2, N σ2 H2 -> ∃ m', m' < m /\ W (i + 1) m' σ2 H2) /\ ∀ x H2, J.yld i H' x H2 -> g x σ' H2 fun σ3 H3 => tc σ3 H3 fun b H4 =>
  if b = true then te σ3 H4 fun y H5 => ∃ xs, H5 D = some (.lst xs) /\ xs.length < sizeLine /\ N σ3 (upd H5 D (.lst (xs ++ [y]))) else N σ3 H4)
section
variable {X : Cx}
theorem comp_block {sc : Scope} {N : List Str} {src : List (Option Nat)} {tg elt iter : Expr} {ifs : List Expr} {pos : Pos} {g : TG} {tc : TT} {te : TE} (B : Blk X sc N src) (hc : X.calm = true)
  (hg : ∀ C fp s H, PG (blkCx X sc C N fp s H) tg g) (ht : ∀ C fp s H, PTs (blkCx X sc C N fp s H) ifs tc) (he : ∀ C fp s H, PE (blkCx X sc C N fp s H) elt te)
  {pins : List (Addr × Obj)} {σ : St} {H : Hp} {s : Shared} {it : Addr} {fp : List Addr} {tn : Nat -> Heap -> Prop} {J : It} {Q : VK} {E : Value -> Shared -> Prop}
  (I : Inv X pins σ H s) (T : Turn X.prog X.w X.K tg J fp it tn) (st : tn 0 s.heap) (hf : ∀ b ∈ fp, FpOk X pins H b)
  (hW : ∀ D, H D = none -> ∃ W : Nat -> Nat -> St -> Hp -> Prop, (∃ m, W 0 m (blk0 src σ) (upd H D (.lst []))) /\ ∀ i m σ' H', W i m σ' H' ->
   (J.stop i H' /\ Q (.ref D) H') \/ (J.go i H' /\ ∃ N : St -> Hp -> Prop, (∀ σ2 H2, N σ2 H2 -> ∃ m', m' < m /\ W (i + 1) m' σ2 H2) /\ ∀ x H2, J.yld i H' x H2 -> g x σ' H2 fun σ3 H3 => tc σ3 H3 fun b H4 =>
    if b = true then te σ3 H4 fun y H5 => ∃ xs, H5 D = some (.lst xs) /\ xs.length < sizeLine /\ N σ3 (upd H5 D (.lst (xs ++ [y]))) else N σ3 H4))
  {RR : Value -> Addr -> Result -> Shared -> Prop}
  (hRR : ∀ D C H' s' m', Inv X pins σ H' s' -> s'.heap.Ns C m' -> H' C = none -> s.heap.objs.size <= C -> Q (.ref D) H' -> RR (.ref D) C (.ok .next) s') :
  wpAny (model X.prog X.w) X.A (newList []) (fun acc s₃ => wpAny (model X.prog X.w) X.A (newFunctionEnv sc X.env.globals (clOf X.env.cells sc.names []) [] X.env.qual none .none (some X.env)) (fun cenv s₄ =>
   codeAny (model X.prog X.w) X.A (.compStart (.ListComp elt [⟨tg, iter, ifs, 0⟩] sc pos) 0 (.ref it) acc { cenv with scope := relabel sc X.env }) (RR acc cenv.locals) s₄) E s₃) E s := by
 refine wpAny_newObj_type (wpAny_newFunctionEnv B.nocell (by intro y hy; simp at hy) (fun h₁ hns₁ hsb₁ => ?_) B.kind)
 dsimp only at hns₁ hsb₁ ⊢
 generalize hH2 : s.heap.push { cls := .type "list", dict := none, data := .seq ([] : List Value).toArray } = H2 at hns₁ hsb₁ ⊢
 have hC : H2.objs.size = s.heap.objs.size + 1 := by rw [<- hH2, Heap.size_push]
 have hDC : s.heap.objs.size ≠ H2.objs.size := by rw [hC]; exact Nat.ne_of_lt (Nat.lt_succ_self _)
 have hCle : s.heap.objs.size <= H2.objs.size := by rw [hC]; exact Nat.le_succ _
 have below : ∀ b, b < s.heap.objs.size -> b ≠ H2.objs.size := fun b hb => by rw [hC]; exact Nat.ne_of_lt (Nat.lt_succ_of_lt hb)
 have old : ∀ b o, s.heap.get? b = some o -> h₁.get? b = some o := fun b o e => hsb₁.extBut b o (below b (Heap.lt_size e)) (Heap.get?_push_of_some _ (hH2 ▸ Heap.get?_push_of_some _ e))
 have hacc : h₁.get? s.heap.objs.size = some { cls := .type "list", data := .seq #[] 0 } := hsb₁.extBut _ _ hDC (Heap.get?_push_of_some _ (hH2 ▸ Heap.get?_push_size _ rfl))
 have hfo : ∀ b ∈ fp, ∃ o, s.heap.get? b = some o := fun b hb => by obtain ⟨o, e, _⟩ := T.obj _ _ st b hb; exact ⟨o, e⟩
 have st1 : tn 0 h₁ := T.keep _ _ _ st fun b _ o e => old b o e
 obtain ⟨W, ⟨m0, w0⟩, turn⟩ := hW s.heap.objs.size I.fresh
 have I1 := blk_start (t := s.toks + ([] : List (Str × Value)).length) B I hc hf hfo old (Nat.le_refl _) hacc hns₁ hCle hDC
 have stat : ∀ {H' : Hp}, (∀ b ∈ fp, H' b = none) -> ∀ b ∈ fp, FpOk (blkCx X sc H2.objs.size N fp s H) [] H' b := fun {H'} hn b hb => by
  obtain ⟨f0, f1, f2, f3, f4, f5⟩ := hf b hb
  refine ⟨hn b hb, I1.ok.exf b hb |>.1, I1.ok.exfs b hb, .inl hb, fun x c e => f4 x c (cl_sub e), fun p hp => absurd (show p ∈ ([] : List (Addr × Obj)) ++ [] from hp) (by simp)⟩
 have hfD : ∀ b ∈ fp, b ≠ s.heap.objs.size := fun b hb z => by
  obtain ⟨o, e⟩ := hfo b hb
  exact absurd (Heap.lt_size e) (by rw [z]; exact Nat.lt_irrefl _)
 have loop : ∀ s₃ : Shared, s₃ = { s with heap := h₁, toks := s.toks + ([] : List (Str × Value)).length } ->
   codeAny (model X.prog X.w) X.A (.compLoop (.ListComp elt [⟨tg, iter, ifs, 0⟩] sc pos) 0 (.ref it) (.ref s.heap.objs.size) (compEnvC sc (clOf X.env.cells sc.names []) H2.objs.size X.env))
    (RR (.ref s.heap.objs.size) H2.objs.size) s₃ := by
  rintro s₃ rfl
  refine compLoop_any (fun n s' => ∃ i σ' H', Inv (blkCx X sc H2.objs.size N fp s H) [] σ' H' s' /\ tn i s'.heap /\ (∀ b ∈ fp, H' b = none) /\ W i n σ' H') ?_ m0
   ⟨0, _, _, I1, st1, fun b hb => by rw [upd_ne (hfD b hb)]; exact (hf b hb).1, w0⟩
  rintro n s3 ⟨i, σ3, H3, I3, st3, fr3, w3⟩
  rcases turn i n σ3 H3 w3 with ⟨stop, qn⟩ | ⟨go, N', hN', step⟩
  ·refine thn (T.done (blkCx X sc H2.objs.size N fp s H) rfl rfl rfl rfl i [] s3 σ3 H3 noE I3 (stat fr3) st3 stop) fun r s4 ⟨hr, I4⟩ => ?_
   subst hr
   obtain ⟨m4, hn4, _⟩ := id I4.loc
   refine hRR _ _ H3 s4 m4 ?_ hn4 I4.free hCle qn
   exact I.call' (ch := fp) I4.os I4.base I4.hok I4.bare fun b hb => ⟨(hf b hb).2.2.2.1, (hf b hb).2.1, (hf b hb).2.2.2.2.1, (hf b hb).2.2.2.2.2⟩
  ·refine thn (T.item (blkCx X sc H2.objs.size N fp s H) rfl rfl rfl rfl i [] s3 σ3 H3 noE I3 (stat fr3) st3 go) fun r s4 ⟨u, hr, h4⟩ => ?_
   subst hr
   refine thn h4 fun _ s5 hpat => ?_
   obtain ⟨x, H5, I5, r5, y5, st5, fr5⟩ := hpat
   have I5' := I5.pinned (stat fr5) (T.obj _ _ st5)
   have again : ∀ {s7 : Shared} {σ7 : St} {H7 : Hp}, Inv (blkCx X sc H2.objs.size N fp s H) ([] ++ pinsAt fp s5.heap) σ7 H7 s7 -> N' σ7 H7 -> ∃ m, m < n /\ ∃ i σ' H', Inv (blkCx X sc H2.objs.size N fp s H) [] σ' H' s7 /\ tn i s7.heap /\ (∀ b ∈ fp, H' b = none) /\ W i m σ' H' := fun {s7 σ7 H7} I7 n7 => by
    obtain ⟨m', hm, w7⟩ := hN' σ7 H7 n7
    refine ⟨m', hm, i + 1, σ7, H7, I7.unpinned, T.keep _ _ _ st5 fun b hb o e => (I7.pin (b, o) (mem_append_right _ (mem_append_right _ (mem_pinsAt hb e)))).1, fun b hb => ?_, w7⟩
    obtain ⟨o, e, d⟩ := T.obj _ _ st5 b hb
    exact (I7.pin (b, o) (mem_append_right _ (mem_append_right _ (mem_pinsAt hb e)))).2.1
   refine thn (hg _ _ _ _ _ s5 σ3 H5 x u _ I5' r5 (step x H5 y5)) fun _ s6 hpat => ?_
   obtain ⟨σ6, H6, I6, q6⟩ := hpat
   refine thn (ht _ _ _ _ _ s6 σ6 H6 _ I6 q6) fun ok s7 hpat => ?_
   obtain ⟨H7, I7, q7⟩ := hpat
   cases ok with
   | false =>
    rw [if_neg Bool.false_ne_true] at q7 ⊢
    exact again I7 q7
   | true =>
    rw [if_pos rfl] at q7 ⊢
    refine thn (he _ _ _ _ _ s7 σ6 H7 _ I7 q7) fun y s8 hpat => ?_
    obtain ⟨v8, H8, I8, r8, q8⟩ := hpat
    obtain ⟨xs, hD8, hz8, n8⟩ := q8
    refine thn (mt_append _ s8 σ6 H8 (.ref s.heap.objs.size) [v8] (.ref s.heap.objs.size) [y] (fun _ H9 => H9 = upd H8 s.heap.objs.size (.lst (xs ++ [v8]))) I8 rfl (.cons r8 .nil) ⟨_, xs, v8, rfl, rfl, hD8, hz8, rfl⟩) fun _ s9 hpat => ?_
    obtain ⟨v9, H9, I9, r9, q9⟩ := hpat
    subst q9
    exact again I9 n8
 refine codeAny_compStart_list (loop _ rfl) (toE (T.self X.A 0 { s with heap := h₁, toks := s.toks + ([] : List (Str × Value)).length } (fun v s' => v = .ref it /\ s' = { s with heap := h₁, toks := s.toks + ([] : List (Str × Value)).length }) noE st1 ⟨rfl, rfl⟩) fun v s' hpat => ?_)
 obtain ⟨e1, e2⟩ := hpat
 subst e1; subst e2
 exact loop _ rfl
theorem Inv.letGo {pins : List (Addr × Obj)} {σ : St} {H : Hp} {s s0 : Shared} {C : Addr} {h' : Heap} (I : Inv X pins σ H s) (I0 : ∃ σ0 H0, Inv X pins σ0 H0 s0) (hC : s0.heap.objs.size <= C) (hn : H C = none) (hs : Heap.SameBut C s.heap h') : Inv X pins σ H { s with heap := h' } := by
 obtain ⟨σ0, H0, I0⟩ := I0
 refine I.turned (t' := s.toks) (it := C) (fun b o hb e => (hs.2 b hb).trans e) hn (Nat.ne_of_gt (Nat.lt_of_lt_of_le I0.lt hC)) (.inr (Nat.le_trans I0.sz hC)) (fun x c e z => ?_) fun p hp z => ?_
 ·obtain ⟨v, q⟩ := I0.cell x c e
  exact absurd (Nat.lt_of_lt_of_le q.lt (by rw [z]; exact hC)) (Nat.lt_irrefl _)
 ·exact absurd (Nat.lt_of_lt_of_le (Heap.lt_size (I0.pin p hp).1) (by rw [z]; exact hC)) (Nat.lt_irrefl _)
theorem pe_comp {sc : Scope} {N : List Str} {src : List (Option Nat)} {tg elt iter : Expr} {ifs : List Expr} {pos : Pos} {wi : TI} {g : TG} {tc : TT} {te : TE} (B : Blk X sc N src) (hc : X.calm = true)
  (hi : PI X tg iter wi) (hg : ∀ C fp s H, PG (blkCx X sc C N fp s H) tg g) (ht : ∀ C fp s H, PTs (blkCx X sc C N fp s H) ifs tc) (he : ∀ C fp s H, PE (blkCx X sc C N fp s H) elt te)
  (hs : ∀ x, foldedSetIterable iter X.env x = pure x := by intro _; rfl) :
  PE X (.ListComp elt [⟨tg, iter, ifs, 0⟩] sc pos) (tComp src wi g tc te) := by
 intro pins s σ H Q I h
 rw [eval_ListComp]
 refine wpAny_comprehension_free (use := none) rfl hs (B.cl I.ok) B.kind B.names (wpAny_mono (hi pins s σ H _ I h) (fun xv s₁ h₁ => wpAny_mono h₁ (fun itv s₂ h₂ => ?_) fun _ _ e => e) fun _ _ e => e)
 obtain ⟨it, fp, tn, J, H2, rfl, I2, T, st2, f2, hW⟩ := h₂
 refine comp_block (RR := fun acc C => compPost (model X.prog X.w) X.A X.xe none (EP X pins σ Q) acc C) (Q := Q) B hc hg ht he I2 T st2 f2 hW ?_
 intro D C H' s' m' I' hn hC hCs q
 exact ⟨m', hn, fun h'' hs'' => ⟨.ref D, H', I'.letGo ⟨_, _, I2⟩ hCs hC hs'', rfl, q⟩⟩
theorem ps_setC {i : Nat} {y : Str} {py : Pos} {sc : Scope} {N : List Str} {src : List (Option Nat)} {tg elt iter : Expr} {ifs : List Expr} {pos spos : Pos} {wi : TI} {g : TG} {tc : TT} {te : TE} (hN : X.N.Nodup) (hi' : X.N[i]? = some y) (hx : Loc X.env.scope y)
  (B : Blk X sc N src) (hc : X.calm = true)
  (hi : PI X tg iter wi) (hg : ∀ C fp s H, PG (blkCx X sc C N fp s H) tg g) (ht : ∀ C fp s H, PTs (blkCx X sc C N fp s H) ifs tc) (he : ∀ C fp s H, PE (blkCx X sc C N fp s H) elt te)
  (hsw : swapsWith (.ListComp elt [⟨tg, iter, ifs, 0⟩] sc pos) (some (.Name y py)) spos.line X.env = pure true := by rfl)
  (hs : ∀ x, foldedSetIterable iter X.env x = pure x := by intro _; rfl) (hf : X.fn y = true \/ X.env.scope.names.lookup y = some .local := by first | exact .inl rfl | exact .inr rfl | assumption) :
  PS X (.Assign [.Name y py] (.ListComp elt [⟨tg, iter, ifs, 0⟩] sc pos) spos) (tAsg (tComp src wi g tc te) (gName i)) := by
 intro pins s σ H Dn I h
 rw [exec_Assign_Name_used _ _ _ _ hsw]
 refine wpAny_bind (wpAny_standAt (wpAny_bind ?_))
 show wpAny _ _ (do let _ ← comprehension (.ListComp elt [⟨tg, iter, ifs, 0⟩] sc pos) sc X.env _ (newList []) false (eval iter X.env) (some (assign (.Name y py) X.env))) _ _ s
 refine wpAny_bind (wpAny_mono (wpAny_comprehension_free (use := some (assign (.Name y py) X.env)) (Q := fun _ s' => SP X pins Dn .next s') rfl hs (B.cl I.ok) B.kind B.names
  (wpAny_mono (hi pins s σ H _ I h) (fun xv s₁ h₁ => wpAny_mono h₁ (fun itv s₂ h₂ => ?_) fun _ _ e => e) fun _ _ e => e)) (fun _ s' hq => wpAny_pure (wpAny_pure hq)) fun _ _ e => e)
 obtain ⟨it, fp, tn, J, H2, rfl, I2, T, st2, f2, hW⟩ := h₂
 refine comp_block (RR := fun acc C => compPost (model X.prog X.w) X.A X.xe (some (assign (.Name y py) X.env)) (fun _ s' => SP X pins Dn .next s') acc C) (Q := fun x H1 => gName i x σ H1 Dn.nx) B hc hg ht he I2 T st2 f2 hW ?_
 intro D C H' s' m' I' hn hC hCs q
 show wpAny _ _ (assign (.Name y py) X.env (.ref D)) _ _ _
 refine wpAny_assign_Name (store_ok2 I' hN hi' hx (v := .ref D) rfl (fun s'' I'' hpat => ?_) hf)
 obtain ⟨a, hsb, ha⟩ := hpat
 have hCa : C ≠ a := fun z => by
  rcases ha with ha | ha
  ·have := I2.lt; rw [<- ha, <- z] at this
   exact absurd (Nat.lt_of_lt_of_le this hCs) (Nat.lt_irrefl _)
  ·obtain ⟨v, qv⟩ := I2.cell y a ha
   exact absurd (Nat.lt_of_lt_of_le qv.lt (by rw [<- z]; exact hCs)) (Nat.lt_irrefl _)
 exact ⟨m', hn.sameBut hsb hCa, fun h'' hs'' => ⟨_, H', I''.letGo ⟨_, _, I2⟩ hCs hC hs'', q⟩⟩
end
end
section
section
variable {X : Cx} {pins : List (Addr × Obj)} {σ : St} {H : Hp} {s : Shared} {h' : Heap}
theorem Inv.turnedL {t' : Nat} {fp : List Addr} (I : Inv X pins σ H s) (k : ∀ b o, b ∉ fp -> s.heap.get? b = some o -> h'.get? b = some o) (hf : ∀ b ∈ fp, FpOk X pins H b) : Inv X pins σ H { s with heap := h', toks := t' } := by
 have nit : ∀ b u, H b = some u -> b ∉ fp := fun b u e z => by rw [(hf b z).1] at e; cases e
 refine I.step (g' := s.gens) (d' := s.drawn) (ch := fp) (fun b hb => ⟨(hf b hb).2.2.2.1, (hf b hb).2.1, (hf b hb).2.2.2.2.1, (hf b hb).2.2.2.2.2⟩) (fun b o _ _ hc e _ => k b o hc e) (fun b o _ _ hc e _ => ⟨o.slots, k b o hc e⟩) (fun _ _ _ _ n => n)
  (fun b o hc e => ⟨o, k b o hc e⟩) (fun _ _ e => e) (fun _ _ _ e => e) (fun b ps e => ⟨#[], by rw [e]; simp⟩) (fun m hm => ?_) (fun b u e => ?_) I.bare
 ·obtain ⟨o, es, ep, ho, r⟩ := hm
  exact ⟨o, es, ep, k _ o (fun z => (hf _ z).2.1 rfl) ho, r⟩
 ·refine (I.hok b u e).stay (fun c v hc q => k c v ?_ q) (fun _ q => q) fun _ _ q => q
  rcases hc with z | z
  ·rw [z]; exact nit b u e
  ·exact nit c _ z
theorem Inv.turnedN {t' : Nat} {fp : List Addr} {T : Addr} {o : HO} (I : Inv X pins σ H s) (k : ∀ b o, b ∉ fp -> s.heap.get? b = some o -> h'.get? b = some o) (hf : ∀ b ∈ fp, FpOk X pins H b) (hT : s.heap.objs.size <= T)
  (new : ObjOk X.prog X.w (upd H T o) h' T o) : Inv X pins σ (upd H T o) { s with heap := h', toks := t' } := by
 have hn : H T = none := I.hok.fresh hT
 have ne : ∀ b u, s.heap.get? b = some u -> b ≠ T := fun b u e z => absurd (Nat.lt_of_lt_of_le (Heap.lt_size e) (by rw [z]; exact hT)) (Nat.lt_irrefl _)
 have nit : ∀ b u, H b = some u -> b ∉ fp := fun b u e z => by rw [(hf b z).1] at e; cases e
 refine I.step (g' := s.gens) (d' := s.drawn) (ch := fp) (fun b hb => ⟨(hf b hb).2.2.2.1, (hf b hb).2.1, (hf b hb).2.2.2.2.1, (hf b hb).2.2.2.2.2⟩) (fun b o _ _ hc e _ => k b o hc e) (fun b o _ _ hc e _ => ⟨o.slots, k b o hc e⟩) (fun b o _ e n => by rw [upd_ne (ne b o e)]; exact n)
  (fun b o hc e => ⟨o, k b o hc e⟩) (fun b xs e => by rw [upd_ne (ne_of_none e hn)]; exact e) (fun b _ _ e => by rw [upd_ne (ne_of_none e hn)]; exact e) (fun b ps e => ⟨#[], by rw [upd_ne (ne_of_none e hn), e]; simp⟩) (fun m hm => ?_) (fun b u e => ?_) I.bare
 ·obtain ⟨o, es, ep, ho, r⟩ := hm
  exact ⟨o, es, ep, k _ o (fun z => (hf _ z).2.1 rfl) ho, r⟩
 ·by_cases hb : b = T
  ·subst hb; rw [upd_same] at e; cases e; exact new
  ·rw [upd_ne hb] at e
   refine (I.hok b u e).stay (fun c v hc q => k c v ?_ q) (fun c q => by rw [upd_ne (ne_of_none q hn)]; exact q) fun c xs q => by rw [upd_ne (ne_of_none q hn)]; exact q
   rcases hc with z | z
   ·rw [z]; exact nit b u e
   ·exact nit c _ z
end
structure Zip2 (z TI TO i1 i2 : Addr) : Prop where
 TIz : TI ≠ z
 TOz : TO ≠ z
 i1z : i1 ≠ z
 i2z : i2 ≠ z
 TITO : TI ≠ TO
 TIi1 : TI ≠ i1
 TIi2 : TI ≠ i2
 TOi1 : TO ≠ i1
 TOi2 : TO ≠ i2
 i12 : i1 ≠ i2
theorem ne_cls {h : Heap} {a b : Addr} {o u : Obj} (e : h.get? a = some o) (e' : h.get? b = some u) (d : o.cls ≠ u.cls) : a ≠ b := by
 intro z; subst z; rw [e] at e'; exact d (congrArg Obj.cls (Option.some.inj e'))
theorem list_ne_of {n : String} (h : ("list" == n) = false) : Value.type "list" ≠ Value.type n := fun e => by cases e; revert h; decide
section
variable {X : Cx}
end
end
section
abbrev IsTrip (h : Heap) (T : Addr) (a b c : Value) : Prop := h.get? T = some { cls := .type "tuple", data := .seq #[a, b, c] }
structure Zip3 (z TI TO i1 i2 i3 : Addr) : Prop where
 TIz : TI ≠ z
 TOz : TO ≠ z
 i1z : i1 ≠ z
 i2z : i2 ≠ z
 i3z : i3 ≠ z
 TITO : TI ≠ TO
 TIi1 : TI ≠ i1
 TIi2 : TI ≠ i2
 TIi3 : TI ≠ i3
 TOi1 : TO ≠ i1
 TOi2 : TO ≠ i2
 TOi3 : TO ≠ i3
 i12 : i1 ≠ i2
 i13 : i1 ≠ i3
 i23 : i2 ≠ i3
theorem zip3_new (n : Nat) : Zip3 (n + 5) (n + 3) (n + 4) n (n + 1) (n + 2) := by
 constructor <;> (show ((_ : Nat) ≠ _); omega)
structure Apart3 (z TO i1 i2 i3 l : Addr) : Prop where
 lz : l ≠ z
 lTO : l ≠ TO
 l1 : l ≠ i1
 l2 : l ≠ i2
 l3 : l ≠ i3
section
variable {prog : Program} {w : World} {A : Around} {E : Value -> Shared -> Prop} {s : Shared}
theorem updateSeq_trip {T : Addr} {a b c x : Value} {k : Nat} {Q : Unit -> Shared -> Prop} (hT : IsTrip s.heap T a b c)
  (h : ∀ h', h'.get? T = some { cls := .type "tuple", data := .seq ((#[a, b, c] : Array Value).setIfInBounds k x) } -> Heap.SameBut T s.heap h' -> Q () { s with heap := h' }) :
  wpAny (model prog w) A (updateSeq T (·.setIfInBounds k x)) Q E s := by
 refine wpAny_updateSeq hT rfl (h _ ?_ (Heap.SameBut.update ..))
 rw [Heap.get?_update_self _ hT rfl]
 simp [Obj.mapSeq]
theorem zip3_next_item {z TI TO i1 i2 i3 l1 l2 l3 : Addr} {k1 k2 k3 : Nat} {xs ys zs : Array Value} {x y v a b c : Value} {Q : Value -> Shared -> Prop} (D : Zip3 z TI TO i1 i2 i3) (A1 : Apart3 z TO i1 i2 i3 l1) (A2 : Apart3 z TO i1 i2 i3 l2) (A3 : Apart3 z TO i1 i2 i3 l3)
  (hz : IsZip s.heap z TI TO .none) (hTI : IsTrip s.heap TI (.ref i1) (.ref i2) (.ref i3)) (hTO : IsTrip s.heap TO a b c)
  (h1 : s.heap.IsListIter i1 l1 k1) (h2 : s.heap.IsListIter i2 l2 k2) (h3 : s.heap.IsListIter i3 l3 k3) (hl1 : s.heap.IsList l1 xs) (hl2 : s.heap.IsList l2 ys) (hl3 : s.heap.IsList l3 zs) (hx : xs[k1]? = some x) (hy : ys[k2]? = some y) (hv : zs[k3]? = some v)
  (hQ : ∀ h', IsZip h' z TI TO (rawInt s.heap.objs.size) -> IsTrip h' TO x y v -> h'.IsListIter i1 l1 (k1 + 1) -> h'.IsListIter i2 l2 (k2 + 1) -> h'.IsListIter i3 l3 (k3 + 1) -> IsTrip h' s.heap.objs.size x y v -> h'.objs.size = s.heap.objs.size + 1 ->
   (∀ c o, c ≠ z -> c ≠ TO -> c ≠ i1 -> c ≠ i2 -> c ≠ i3 -> s.heap.get? c = some o -> h'.get? c = some o) -> Q (.ref s.heap.objs.size) { s with heap := h' }) :
  wpAny (model prog w) A (Builtin.«zip.__next__» ⟨[.ref z], []⟩) (fun fin s' => ∃ v, fin = .done (.ret v) /\ Q v s') E s := by
 show wpAny _ _ (field (.ref z) 2 >>= _) _ _ _
 refine wpAny_bind (wpAny_field hz rfl (x := .bool false) rfl ?_)
 show wpAny _ _ (field (.ref z) 3 >>= _) _ _ _
 refine wpAny_bind (wpAny_field hz rfl (x := .ref TI) rfl ?_)
 refine wpAny_bind (wpAny_seqItems hTI rfl ?_)
 show wpAny _ _ (Builtin.SmallTypes.ownedTupleIsFree (.ref z) >>= _) _ _ _
 refine wpAny_bind ?_
 unfold Builtin.SmallTypes.ownedTupleIsFree
 refine wpAny_bind (wpAny_field hz rfl (x := .none) rfl (wpAny_pure ?_))
 simp only [if_true]
 refine wpAny_bind (wpAny_rule ?_)
 refine wpAny_bind (wpAny_field hz rfl (x := .ref TO) rfl ?_)
 refine wpAny_bind (wpAny_setField_rec hz (by simp) fun h₁ hz₁ hs₁ => ?_)
 replace hz₁ : IsZip h₁ z TI TO .ellipsis := hz₁
 refine wpAny_bind ?_
 simp only [zipIdx_cons, zipIdx_nil, forIn_cons, forIn_nil]
 refine wpAny_bind (wpAny_bind (wpAny_onRaise ?_))
 show wpAny _ _ (Builtin.SmallTypes.nextOf (.ref i1) >>= _) _ _ _
 refine wpAny_bind (wpAny_nextOf_list_item (h1.extBut hs₁.extBut D.i1z) (hl1.extBut hs₁.extBut A1.lz) hx fun h₂ h1₂ hs₂ => wpAny_pure ?_)
 have hTO₂ : IsTrip h₂ TO a b c := hs₂.extBut _ _ D.TOi1 (hs₁.extBut _ _ D.TOz hTO)
 refine wpAny_bind (wpAny_seqItems hTO₂ rfl ?_)
 refine wpAny_bind (updateSeq_trip hTO₂ fun h₃ hTO₃ hs₃ => ?_)
 replace hTO₃ : IsTrip h₃ TO x b c := hTO₃
 refine wpAny_bind (wpAny_letGo (wpAny_pure ?_))
 refine wpAny_bind (wpAny_bind (wpAny_onRaise ?_))
 show wpAny _ _ (Builtin.SmallTypes.nextOf (.ref i2) >>= _) _ _ _
 refine wpAny_bind (wpAny_nextOf_list_item (((h2.extBut hs₁.extBut D.i2z).extBut hs₂.extBut D.i12.symm).extBut hs₃.extBut D.TOi2.symm)
  (((hl2.extBut hs₁.extBut A2.lz).extBut hs₂.extBut A2.l1).extBut hs₃.extBut A2.lTO) hy fun h₄ h2₄ hs₄ => wpAny_pure ?_)
 have hTO₄ : IsTrip h₄ TO x b c := hs₄.extBut _ _ D.TOi2 hTO₃
 refine wpAny_bind (wpAny_seqItems hTO₄ rfl ?_)
 refine wpAny_bind (updateSeq_trip hTO₄ fun h₅ hTO₅ hs₅ => ?_)
 replace hTO₅ : IsTrip h₅ TO x y c := hTO₅
 refine wpAny_bind (wpAny_letGo (wpAny_pure ?_))
 refine wpAny_bind (wpAny_bind (wpAny_onRaise ?_))
 show wpAny _ _ (Builtin.SmallTypes.nextOf (.ref i3) >>= _) _ _ _
 refine wpAny_bind (wpAny_nextOf_list_item (((((h3.extBut hs₁.extBut D.i3z).extBut hs₂.extBut D.i13.symm).extBut hs₃.extBut D.TOi3.symm).extBut hs₄.extBut D.i23.symm).extBut hs₅.extBut D.TOi3.symm)
  (((((hl3.extBut hs₁.extBut A3.lz).extBut hs₂.extBut A3.l1).extBut hs₃.extBut A3.lTO).extBut hs₄.extBut A3.l2).extBut hs₅.extBut A3.lTO) hv fun h₆ h3₆ hs₆ => wpAny_pure ?_)
 have hTO₆ : IsTrip h₆ TO x y c := hs₆.extBut _ _ D.TOi3 hTO₅
 refine wpAny_bind (wpAny_seqItems hTO₆ rfl ?_)
 refine wpAny_bind (updateSeq_trip hTO₆ fun h₇ hTO₇ hs₇ => ?_)
 replace hTO₇ : IsTrip h₇ TO x y v := hTO₇
 refine wpAny_bind (wpAny_letGo (wpAny_pure (wpAny_pure ?_)))
 refine wpAny_bind (wpAny_seqItems hTO₇ rfl ?_)
 refine wpAny_bind (wpAny_newTuple ?_)
 have hsz : h₇.objs.size = s.heap.objs.size := by rw [hs₇.1, hs₆.1, hs₅.1, hs₄.1, hs₃.1, hs₂.1, hs₁.1]
 have hz₇ : IsZip h₇ z TI TO .ellipsis := hs₇.extBut _ _ D.TOz.symm (hs₆.extBut _ _ D.i3z.symm (hs₅.extBut _ _ D.TOz.symm (hs₄.extBut _ _ D.i2z.symm (hs₃.extBut _ _ D.TOz.symm (hs₂.extBut _ _ D.i1z.symm hz₁)))))
 have hk₇ : ∀ c o, c ≠ z -> c ≠ TO -> c ≠ i1 -> c ≠ i2 -> c ≠ i3 -> s.heap.get? c = some o -> h₇.get? c = some o := fun c o c1 c2 c3 c4 c5 e =>
  hs₇.extBut _ _ c2 (hs₆.extBut _ _ c5 (hs₅.extBut _ _ c2 (hs₄.extBut _ _ c4 (hs₃.extBut _ _ c2 (hs₂.extBut _ _ c3 (hs₁.extBut _ _ c1 e))))))
 have h1₇ : h₇.IsListIter i1 l1 (k1 + 1) := ((((h1₂.extBut hs₃.extBut D.TOi1.symm).extBut hs₄.extBut D.i12).extBut hs₅.extBut D.TOi1.symm).extBut hs₆.extBut D.i13).extBut hs₇.extBut D.TOi1.symm
 have h2₇ : h₇.IsListIter i2 l2 (k2 + 1) := ((h2₄.extBut hs₅.extBut D.TOi2.symm).extBut hs₆.extBut D.i23).extBut hs₇.extBut D.TOi2.symm
 have h3₇ : h₇.IsListIter i3 l3 (k3 + 1) := h3₆.extBut hs₇.extBut D.TOi3.symm
 have hzlt : z < h₇.objs.size := Heap.lt_size hz₇
 show wpAny _ _ (Builtin.SmallTypes.ownedTupleHandOut (.ref z) (.ref h₇.objs.size) >>= _) _ _ _
 refine wpAny_bind ?_
 unfold Builtin.SmallTypes.ownedTupleHandOut
 have hz₈ : IsZip (h₇.push { cls := .type "tuple", data := .seq #[x, y, v] }) z TI TO .ellipsis := Heap.get?_push_of_some _ hz₇
 refine wpAny_bind (wpAny_setField_rec hz₈ (by simp) fun h₉ hz₉ hs₉ => ?_)
 replace hz₉ : IsZip h₉ z TI TO (rawInt h₇.objs.size) := hz₉
 refine wpAny_setField_rec hz₉ (by simp) fun h₀ hz₀ hs₀ => ?_
 replace hz₀ : IsZip h₀ z TI TO (rawInt h₇.objs.size) := hz₀
 have up : ∀ c o, c ≠ z -> h₇.get? c = some o -> h₀.get? c = some o := fun c o c1 e => hs₀.extBut _ _ c1 (hs₉.extBut _ _ c1 (Heap.get?_push_of_some _ e))
 have hT₀ : IsTrip h₀ h₇.objs.size x y v := hs₀.extBut _ _ (Nat.ne_of_gt hzlt) (hs₉.extBut _ _ (Nat.ne_of_gt hzlt) (Heap.get?_push_size _ rfl))
 have hz0 : h₀.objs.size = h₇.objs.size + 1 := by rw [hs₀.1, hs₉.1, Heap.size_push]
 rw [hsz] at hz₀ hT₀ hz0
 refine wpAny_pure ⟨_, rfl, ?_⟩
 show Q (.ref h₇.objs.size) _
 rw [hsz]
 exact hQ h₀ hz₀ (up _ _ D.TOz hTO₇) (h1₇.at fun o e => up _ o D.i1z e) (h2₇.at fun o e => up _ o D.i2z e) (h3₇.at fun o e => up _ o D.i3z e) hT₀ hz0 fun c o c1 c2 c3 c4 c5 e => up c o c1 (hk₇ c o c1 c2 c3 c4 c5 e)
theorem zip3_next_end {z TI TO i1 i2 i3 l1 l2 l3 : Addr} {k1 k2 k3 : Nat} {xs ys zs : Array Value} {a b c : Value} {Q : Fin -> Shared -> Prop} (hh : A.handled = none) (D : Zip3 z TI TO i1 i2 i3) (A1 : Apart3 z TO i1 i2 i3 l1) (A2 : Apart3 z TO i1 i2 i3 l2) (A3 : Apart3 z TO i1 i2 i3 l3)
  (hz : IsZip s.heap z TI TO .none) (hTI : IsTrip s.heap TI (.ref i1) (.ref i2) (.ref i3)) (hTO : IsTrip s.heap TO a b c)
  (h1 : s.heap.IsListIter i1 l1 k1) (h2 : s.heap.IsListIter i2 l2 k2) (h3 : s.heap.IsListIter i3 l3 k3) (hl1 : s.heap.IsList l1 xs) (hl2 : s.heap.IsList l2 ys) (hl3 : s.heap.IsList l3 zs) (hend : xs[k1]? = none \/ ys[k2]? = none \/ zs[k3]? = none)
  (hE : ∀ h' e, (∀ c o, c ≠ z -> c ≠ TO -> c ≠ i1 -> c ≠ i2 -> c ≠ i3 -> s.heap.get? c = some o -> h'.get? c = some o) -> (∃ o, h'.get? e = some o /\ o.cls = .type "StopIteration") -> E (.ref e) { s with heap := h' }) :
  wpAny (model prog w) A (Builtin.«zip.__next__» ⟨[.ref z], []⟩) Q E s := by
 show wpAny _ _ (field (.ref z) 2 >>= _) _ _ _
 refine wpAny_bind (wpAny_field hz rfl (x := .bool false) rfl ?_)
 show wpAny _ _ (field (.ref z) 3 >>= _) _ _ _
 refine wpAny_bind (wpAny_field hz rfl (x := .ref TI) rfl ?_)
 refine wpAny_bind (wpAny_seqItems hTI rfl ?_)
 show wpAny _ _ (Builtin.SmallTypes.ownedTupleIsFree (.ref z) >>= _) _ _ _
 refine wpAny_bind ?_
 unfold Builtin.SmallTypes.ownedTupleIsFree
 refine wpAny_bind (wpAny_field hz rfl (x := .none) rfl (wpAny_pure ?_))
 simp only [if_true]
 refine wpAny_bind (wpAny_rule ?_)
 refine wpAny_bind (wpAny_field hz rfl (x := .ref TO) rfl ?_)
 refine wpAny_bind (wpAny_setField_rec hz (by simp) fun h₁ hz₁ hs₁ => ?_)
 replace hz₁ : IsZip h₁ z TI TO .ellipsis := hz₁
 refine wpAny_bind ?_
 simp only [zipIdx_cons, zipIdx_nil, forIn_cons, forIn_nil]
 refine wpAny_bind (wpAny_bind (wpAny_onRaise ?_))
 show wpAny _ _ (Builtin.SmallTypes.nextOf (.ref i1) >>= _) _ _ _
 cases hx : xs[k1]? with
 | none =>
  refine wpAny_bind (wpAny_nextOf_list_end hh (h1.extBut hs₁.extBut D.i1z) (hl1.extBut hs₁.extBut A1.lz) hx fun h₂ e hs₂ he => ?_)
  obtain ⟨oe, hoe, hce⟩ := he
  have hz₂ : IsZip h₂ z TI TO .ellipsis := hs₂ _ _ D.i1z.symm hz₁
  have hez : e ≠ z := fun x => by subst x; rw [hz₂] at hoe; cases hoe; simp at hce
  refine wpAny_setField_rec hz₂ (by simp) fun h₃ _ hs₃ => hE h₃ e (fun c o c1 _ c3 _ _ x => hs₃.extBut _ _ c1 (hs₂ _ _ c3 (hs₁.extBut _ _ c1 x))) ⟨oe, hs₃.extBut _ _ hez hoe, hce⟩
 | some x =>
  refine wpAny_bind (wpAny_nextOf_list_item (h1.extBut hs₁.extBut D.i1z) (hl1.extBut hs₁.extBut A1.lz) hx fun h₂ h1₂ hs₂ => wpAny_pure ?_)
  have hTO₂ : IsTrip h₂ TO a b c := hs₂.extBut _ _ D.TOi1 (hs₁.extBut _ _ D.TOz hTO)
  refine wpAny_bind (wpAny_seqItems hTO₂ rfl ?_)
  refine wpAny_bind (updateSeq_trip hTO₂ fun h₃ hTO₃ hs₃ => ?_)
  replace hTO₃ : IsTrip h₃ TO x b c := hTO₃
  refine wpAny_bind (wpAny_letGo (wpAny_pure ?_))
  refine wpAny_bind (wpAny_bind (wpAny_onRaise ?_))
  show wpAny _ _ (Builtin.SmallTypes.nextOf (.ref i2) >>= _) _ _ _
  cases hy : ys[k2]? with
  | none =>
   refine wpAny_bind (wpAny_nextOf_list_end hh (((h2.extBut hs₁.extBut D.i2z).extBut hs₂.extBut D.i12.symm).extBut hs₃.extBut D.TOi2.symm)
    (((hl2.extBut hs₁.extBut A2.lz).extBut hs₂.extBut A2.l1).extBut hs₃.extBut A2.lTO) hy fun h₄ e hs₄ he => ?_)
   obtain ⟨oe, hoe, hce⟩ := he
   have hz₄ : IsZip h₄ z TI TO .ellipsis := hs₄ _ _ D.i2z.symm (hs₃.extBut _ _ D.TOz.symm (hs₂.extBut _ _ D.i1z.symm hz₁))
   have hez : e ≠ z := fun x => by subst x; rw [hz₄] at hoe; cases hoe; simp at hce
   refine wpAny_setField_rec hz₄ (by simp) fun h₅ _ hs₅ => hE h₅ e (fun c o c1 c2 c3 c4 _ x => hs₅.extBut _ _ c1 (hs₄ _ _ c4 (hs₃.extBut _ _ c2 (hs₂.extBut _ _ c3 (hs₁.extBut _ _ c1 x))))) ⟨oe, hs₅.extBut _ _ hez hoe, hce⟩
  | some y =>
   have hv : zs[k3]? = none := by
    rcases hend with h | h | h
    ·rw [hx] at h; cases h
    ·rw [hy] at h; cases h
    ·exact h
   refine wpAny_bind (wpAny_nextOf_list_item (((h2.extBut hs₁.extBut D.i2z).extBut hs₂.extBut D.i12.symm).extBut hs₃.extBut D.TOi2.symm)
    (((hl2.extBut hs₁.extBut A2.lz).extBut hs₂.extBut A2.l1).extBut hs₃.extBut A2.lTO) hy fun h₄ h2₄ hs₄ => wpAny_pure ?_)
   have hTO₄ : IsTrip h₄ TO x b c := hs₄.extBut _ _ D.TOi2 hTO₃
   refine wpAny_bind (wpAny_seqItems hTO₄ rfl ?_)
   refine wpAny_bind (updateSeq_trip hTO₄ fun h₅ hTO₅ hs₅ => ?_)
   replace hTO₅ : IsTrip h₅ TO x y c := hTO₅
   refine wpAny_bind (wpAny_letGo (wpAny_pure ?_))
   refine wpAny_bind (wpAny_bind (wpAny_onRaise ?_))
   show wpAny _ _ (Builtin.SmallTypes.nextOf (.ref i3) >>= _) _ _ _
   refine wpAny_bind (wpAny_nextOf_list_end hh (((((h3.extBut hs₁.extBut D.i3z).extBut hs₂.extBut D.i13.symm).extBut hs₃.extBut D.TOi3.symm).extBut hs₄.extBut D.i23.symm).extBut hs₅.extBut D.TOi3.symm)
    (((((hl3.extBut hs₁.extBut A3.lz).extBut hs₂.extBut A3.l1).extBut hs₃.extBut A3.lTO).extBut hs₄.extBut A3.l2).extBut hs₅.extBut A3.lTO) hv fun h₆ e hs₆ he => ?_)
   obtain ⟨oe, hoe, hce⟩ := he
   have hz₆ : IsZip h₆ z TI TO .ellipsis := hs₆ _ _ D.i3z.symm (hs₅.extBut _ _ D.TOz.symm (hs₄.extBut _ _ D.i2z.symm (hs₃.extBut _ _ D.TOz.symm (hs₂.extBut _ _ D.i1z.symm hz₁))))
   have hez : e ≠ z := fun x => by subst x; rw [hz₆] at hoe; cases hoe; simp at hce
   refine wpAny_setField_rec hz₆ (by simp) fun h₇ _ hs₇ => hE h₇ e (fun c o c1 c2 c3 c4 c5 x => hs₇.extBut _ _ c1 (hs₆ _ _ c5 (hs₅.extBut _ _ c2 (hs₄.extBut _ _ c4 (hs₃.extBut _ _ c2 (hs₂.extBut _ _ c3 (hs₁.extBut _ _ c1 x))))))) ⟨oe, hs₇.extBut _ _ hez hoe, hce⟩
theorem pyNext_zip3_item {z TI TO i1 i2 i3 l1 l2 l3 : Addr} {k1 k2 k3 : Nat} {xs ys zs : Array Value} {x y v a b c : Value} {Q : Option Value -> Shared -> Prop} (D : Zip3 z TI TO i1 i2 i3) (A1 : Apart3 z TO i1 i2 i3 l1) (A2 : Apart3 z TO i1 i2 i3 l2) (A3 : Apart3 z TO i1 i2 i3 l3)
  (hz : IsZip s.heap z TI TO .none) (hTI : IsTrip s.heap TI (.ref i1) (.ref i2) (.ref i3)) (hTO : IsTrip s.heap TO a b c)
  (h1 : s.heap.IsListIter i1 l1 k1) (h2 : s.heap.IsListIter i2 l2 k2) (h3 : s.heap.IsListIter i3 l3 k3) (hl1 : s.heap.IsList l1 xs) (hl2 : s.heap.IsList l2 ys) (hl3 : s.heap.IsList l3 zs) (hx : xs[k1]? = some x) (hy : ys[k2]? = some y) (hv : zs[k3]? = some v)
  (hQ : ∀ h', IsZip h' z TI TO (rawInt s.heap.objs.size) -> IsTrip h' TO x y v -> h'.IsListIter i1 l1 (k1 + 1) -> h'.IsListIter i2 l2 (k2 + 1) -> h'.IsListIter i3 l3 (k3 + 1) -> IsTrip h' s.heap.objs.size x y v -> h'.objs.size = s.heap.objs.size + 1 ->
   (∀ c o, c ≠ z -> c ≠ TO -> c ≠ i1 -> c ≠ i2 -> c ≠ i3 -> s.heap.get? c = some o -> h'.get? c = some o) -> Q (some (.ref s.heap.objs.size)) { s with heap := h' }) :
  wpAny (model prog w) A (pyNext (.ref z)) Q E s := by
 have hT : s.TypeIs (.ref z) "zip" := ⟨_, hz, rfl⟩
 unfold pyNext
 exact wpAny_bind (wpAny_attempt (wpAny_callSpecial?_slot (name := Str.ofString "__next__") hT F.slot_zip_next
  (wpAny_call_entry F.slot_zip_next hT F.entry_zip_next
   (zip3_next_item D A1 A2 A3 hz hTI hTO h1 h2 h3 hl1 hl2 hl3 hx hy hv fun h' a1 a2 a3 a4 a5 a6 a7 a8 => wpAny_pure (hQ h' a1 a2 a3 a4 a5 a6 a7 a8)) (F.args_zip_next_1 _))))
theorem pyNext_zip3_end {z TI TO i1 i2 i3 l1 l2 l3 : Addr} {k1 k2 k3 : Nat} {xs ys zs : Array Value} {a b c : Value} {Q : Option Value -> Shared -> Prop} (hh : A.handled = none) (D : Zip3 z TI TO i1 i2 i3) (A1 : Apart3 z TO i1 i2 i3 l1) (A2 : Apart3 z TO i1 i2 i3 l2) (A3 : Apart3 z TO i1 i2 i3 l3)
  (hz : IsZip s.heap z TI TO .none) (hTI : IsTrip s.heap TI (.ref i1) (.ref i2) (.ref i3)) (hTO : IsTrip s.heap TO a b c)
  (h1 : s.heap.IsListIter i1 l1 k1) (h2 : s.heap.IsListIter i2 l2 k2) (h3 : s.heap.IsListIter i3 l3 k3) (hl1 : s.heap.IsList l1 xs) (hl2 : s.heap.IsList l2 ys) (hl3 : s.heap.IsList l3 zs) (hend : xs[k1]? = none \/ ys[k2]? = none \/ zs[k3]? = none)
  (hQ : ∀ h', (∀ c o, c ≠ z -> c ≠ TO -> c ≠ i1 -> c ≠ i2 -> c ≠ i3 -> s.heap.get? c = some o -> h'.get? c = some o) -> Q none { s with heap := h' }) : wpAny (model prog w) A (pyNext (.ref z)) Q E s := by
 have hT : s.TypeIs (.ref z) "zip" := ⟨_, hz, rfl⟩
 unfold pyNext
 refine wpAny_bind (wpAny_attempt (wpAny_callSpecial?_slot (name := Str.ofString "__next__") hT F.slot_zip_next
  (wpAny_call_entry F.slot_zip_next hT F.entry_zip_next (zip3_next_end hh D A1 A2 A3 hz hTI hTO h1 h2 h3 hl1 hl2 hl3 hend fun h' e hk he => ?_) (F.args_zip_next_1 _))))
 obtain ⟨o, ho, hc⟩ := he
 refine wpAny_bind (wpAny_isInstance (T := "StopIteration") (b := true) ⟨o, ho, hc⟩ isSubtype_stop ?_)
 exact wpAny_pure (hQ _ hk)
abbrev z3H1 (h : Heap) (l1 : Addr) : Heap := h.push { cls := .type "list_iterator", data := .fields #[.ref l1, .int 0 0] }
abbrev z3H2 (h : Heap) (l1 l2 : Addr) : Heap := (z3H1 h l1).push { cls := .type "list_iterator", data := .fields #[.ref l2, .int 0 0] }
abbrev z3H3 (h : Heap) (l1 l2 l3 : Addr) : Heap := (z3H2 h l1 l2).push { cls := .type "list_iterator", data := .fields #[.ref l3, .int 0 0] }
abbrev z3H4 (h : Heap) (l1 l2 l3 : Addr) : Heap := (z3H3 h l1 l2 l3).push { cls := .type "tuple", data := .seq #[.ref h.objs.size, .ref (z3H1 h l1).objs.size, .ref (z3H2 h l1 l2).objs.size] }
abbrev z3H5 (h : Heap) (l1 l2 l3 : Addr) : Heap := (z3H4 h l1 l2 l3).push { cls := .type "tuple", data := .seq #[.none, .none, .none] }
abbrev z3H6 (h : Heap) (l1 l2 l3 : Addr) : Heap := (z3H5 h l1 l2 l3).push { cls := .type "zip", data := .fields #[.none, .bool false, .bool false, .ref (z3H3 h l1 l2 l3).objs.size, .ref (z3H4 h l1 l2 l3).objs.size] }
theorem typeCall_zip_3 (a b c : Value) : checkTypeCall "zip" ⟨[a, b, c], []⟩ = pure () := by kernel_rfl
theorem newCall_zip_3 (a b c : Value) : checkBuiltinCall "zip.__new__" ⟨[.type "zip", a, b, c], []⟩ = pure () := by kernel_rfl
theorem args_init_4 (a b c d : Value) : argsOk "object.__init__" ⟨[a, b, c, d], []⟩ := by
 unfold argsOk; rw [signature?_of (id := "object.__init__") (n := ['_', '_', 't', 'i', 'n', 'i', '_', '_']) (o := ['t', 'c', 'e', 'j', 'b', 'o']) (by kernel_rfl) F.owner_object]; kernel_rfl
set_option maxHeartbeats 8000000 in
theorem meets_zip3_new (l1 l2 l3 : Addr) (xs ys zs : Array Value) :
  Meets (Builtin.«zip.__new__» ⟨[.type "zip", .ref l1, .ref l2, .ref l3], []⟩) (fun _ R s => s.heap.IsList l1 xs /\ s.heap.IsList l2 ys /\ s.heap.IsList l3 zs /\
   R (.ok (.ret (.ref (z3H5 s.heap l1 l2 l3).objs.size))) { s with heap := z3H6 s.heap l1 l2 l3 }) :=
 .of_wp fun prog w A R s h => by
  obtain ⟨hp, g, d, tk, os⟩ := s; obtain ⟨hl1, hl2, hl3, h⟩ := h
  have hsub := sub_zip
  have hL1 : Heap.IsList (Shared.heap ⟨hp, g, d, tk, os⟩) l1 xs := hl1
  have hL2 : Heap.IsList (Shared.heap ⟨hp.push { cls := .type "list_iterator", data := .fields #[.ref l1, .int 0 0] }, g, d, tk, os⟩) l2 ys := Heap.IsList.push hl2 _
  have hL3 : Heap.IsList (Shared.heap ⟨(hp.push { cls := .type "list_iterator", data := .fields #[.ref l1, .int 0 0] }).push { cls := .type "list_iterator", data := .fields #[.ref l2, .int 0 0] }, g, d, tk, os⟩) l3 zs := Heap.IsList.push (Heap.IsList.push hl3 _) _
  wp_walk using wpAny_pyIter_list hL1, wpAny_pyIter_list hL2, wpAny_pyIter_list hL3
  exact ⟨_, rfl, h⟩
theorem call_zip_3 {l1 l2 l3 : Addr} {xs ys zs : Array Value} {Q : Value -> Shared -> Prop} (hl1 : s.heap.IsList l1 xs) (hl2 : s.heap.IsList l2 ys) (hl3 : s.heap.IsList l3 zs)
  (h : ∀ h', IsZip h' (s.heap.objs.size + 5) (s.heap.objs.size + 3) (s.heap.objs.size + 4) .none -> IsTrip h' (s.heap.objs.size + 3) (.ref s.heap.objs.size) (.ref (s.heap.objs.size + 1)) (.ref (s.heap.objs.size + 2)) ->
   IsTrip h' (s.heap.objs.size + 4) .none .none .none -> h'.IsListIter s.heap.objs.size l1 0 -> h'.IsListIter (s.heap.objs.size + 1) l2 0 -> h'.IsListIter (s.heap.objs.size + 2) l3 0 ->
   (∀ c o, s.heap.get? c = some o -> h'.get? c = some o) -> Q (.ref (s.heap.objs.size + 5)) { s with heap := h' }) :
  wpAny (model prog w) A (call (.type "zip") [.ref l1, .ref l2, .ref l3]) Q E s := by
 refine callType_new F.called_zip (by decide) (typeCall_zip_3 _ _ _) (newCall_zip_3 _ _ _) (fun obj => args_init_4 obj _ _ _) F.entry_zip_new
  (meets_zip3_new l1 l2 l3 xs ys zs) ⟨hl1, hl2, hl3, ?_⟩
 have z1 : (z3H1 s.heap l1).objs.size = s.heap.objs.size + 1 := Heap.size_push ..
 have z2 : (z3H2 s.heap l1 l2).objs.size = s.heap.objs.size + 2 := by rw [Heap.size_push, z1]
 have z3 : (z3H3 s.heap l1 l2 l3).objs.size = s.heap.objs.size + 3 := by rw [Heap.size_push, z2]
 have z4 : (z3H4 s.heap l1 l2 l3).objs.size = s.heap.objs.size + 4 := by rw [Heap.size_push, z3]
 have z5 : (z3H5 s.heap l1 l2 l3).objs.size = s.heap.objs.size + 5 := by rw [Heap.size_push, z4]
 have g6 : (z3H6 s.heap l1 l2 l3).get? (z3H5 s.heap l1 l2 l3).objs.size = some _ := Heap.get?_push_size _ rfl
 have g5 : (z3H6 s.heap l1 l2 l3).get? (z3H4 s.heap l1 l2 l3).objs.size = some _ := Heap.get?_push_of_some _ (Heap.get?_push_size _ rfl)
 have g4 : (z3H6 s.heap l1 l2 l3).get? (z3H3 s.heap l1 l2 l3).objs.size = some _ := Heap.get?_push_of_some _ (Heap.get?_push_of_some _ (Heap.get?_push_size _ rfl))
 have g3 : (z3H6 s.heap l1 l2 l3).get? (z3H2 s.heap l1 l2).objs.size = some _ := Heap.get?_push_of_some _ (Heap.get?_push_of_some _ (Heap.get?_push_of_some _ (Heap.get?_push_size _ rfl)))
 have g2 : (z3H6 s.heap l1 l2 l3).get? (z3H1 s.heap l1).objs.size = some _ := Heap.get?_push_of_some _ (Heap.get?_push_of_some _ (Heap.get?_push_of_some _ (Heap.get?_push_of_some _ (Heap.get?_push_size _ rfl))))
 have g1 : (z3H6 s.heap l1 l2 l3).get? s.heap.objs.size = some _ := Heap.get?_push_of_some _ (Heap.get?_push_of_some _ (Heap.get?_push_of_some _ (Heap.get?_push_of_some _ (Heap.get?_push_of_some _ (Heap.get?_push_size _ rfl)))))
 show _ /\ _
 rw [z3, z4, z5] at g6
 rw [z4] at g5
 rw [z1, z2, z3] at g4
 rw [z2] at g3
 rw [z1] at g2
 rw [z5]
 exact ⟨⟨_, g6, rfl⟩, h _ g6 g4 g5 ⟨_, g1, rfl, rfl⟩ ⟨_, g2, rfl, rfl⟩ ⟨_, g3, rfl, rfl⟩ fun c o x =>
  Heap.get?_push_of_some _ (Heap.get?_push_of_some _ (Heap.get?_push_of_some _ (Heap.get?_push_of_some _ (Heap.get?_push_of_some _ (Heap.get?_push_of_some _ x)))))⟩
end
def Itz3 (K : W.Frag) (l1 l2 l3 : Addr) : It :=
 ⟨fun i H => ∃ xs ys zs x y z, SqL K H l1 xs /\ SqL K H l2 ys /\ SqL K H l3 zs /\ xs[i]? = some x /\ ys[i]? = some y /\ zs[i]? = some z,
  fun i H v H' => ∃ t x y z, v = .ref t /\ H t = none /\ H' = upd H t (.tup [x, y, z]) /\ (∀ xs, SqL K H l1 xs -> xs[i]? = some x) /\ (∀ ys, SqL K H l2 ys -> ys[i]? = some y) /\ (∀ zs, SqL K H l3 zs -> zs[i]? = some z),
  fun i H => ∃ xs ys zs, SqL K H l1 xs /\ SqL K H l2 ys /\ SqL K H l3 zs /\ (xs.length <= i \/ ys.length <= i \/ zs.length <= i)⟩
theorem apart3_of {h : Heap} {z TI TO i1 i2 i3 l m1 m2 m3 : Addr} {its : Array Value} {a b c f0 : Value} {k1 k2 k3 : Nat} (hz : IsZip h z TI TO f0) (hTO : IsTrip h TO a b c) (h1 : h.IsListIter i1 m1 k1) (h2 : h.IsListIter i2 m2 k2) (h3 : h.IsListIter i3 m3 k3)
  (p : h.IsList l its) : Apart3 z TO i1 i2 i3 l := by
 obtain ⟨o1, e1, c1, _⟩ := h1
 obtain ⟨o2, e2, c2, _⟩ := h2
 obtain ⟨o3, e3, c3, _⟩ := h3
 obtain ⟨po, pe, pc, _⟩ := p
 exact ⟨ne_cls pe hz (by rw [pc]; exact list_ne_of (by decide)), ne_cls pe hTO (by rw [pc]; exact list_ne_of (by decide)), ne_cls pe e1 (by rw [pc, c1]; exact list_ne_of (by decide)), ne_cls pe e2 (by rw [pc, c2]; exact list_ne_of (by decide)), ne_cls pe e3 (by rw [pc, c3]; exact list_ne_of (by decide))⟩
theorem turn_zip3 {P : Program} {w : World} {K : W.Frag} {es : List Expr} {tk : Nat} {tp : Pos} (z TI TO i1 i2 i3 l1 l2 l3 : Addr) (D : Zip3 z TI TO i1 i2 i3) :
  Turn P w K (.Tuple es tk tp) (Itz3 K l1 l2 l3) [z, TI, TO, i1, i2, i3] z
   (fun i h => IsZip h z TI TO .none /\ IsTrip h TI (.ref i1) (.ref i2) (.ref i3) /\ (∃ a b c, IsTrip h TO a b c) /\ h.IsListIter i1 l1 i /\ h.IsListIter i2 l2 i /\ h.IsListIter i3 l3 i) where
 mem := by simp
 obj := fun i h st b hb => by
  obtain ⟨hz, hTI, ⟨a, c, d, hTO⟩, ⟨o1, e1, _, d1⟩, ⟨o2, e2, _, d2⟩, ⟨o3, e3, _, d3⟩⟩ := st
  simp only [mem_cons, not_mem_nil, or_false] at hb
  rcases hb with rfl | rfl | rfl | rfl | rfl | rfl
  ·exact ⟨_, hz, fun v q => by cases q⟩
  ·exact ⟨_, hTI, fun v q => by cases q⟩
  ·exact ⟨_, hTO, fun v q => by cases q⟩
  ·exact ⟨_, e1, fun v q => by rw [d1] at q; cases q⟩
  ·exact ⟨_, e2, fun v q => by rw [d2] at q; cases q⟩
  ·exact ⟨_, e3, fun v q => by rw [d3] at q; cases q⟩
 keep := fun i h h' st k => by
  obtain ⟨hz, hTI, ⟨a, c, d, hTO⟩, h1, h2, h3⟩ := st
  exact ⟨k z (by simp) _ hz, k TI (by simp) _ hTI, ⟨a, c, d, k TO (by simp) _ hTO⟩, h1.at fun o e => k i1 (by simp) o e, h2.at fun o e => k i2 (by simp) o e, h3.at fun o e => k i3 (by simp) o e⟩
 item := by
  intro X hP hw hK hc i pins s σ H E I hf st hg
  subst hP hw hK
  obtain ⟨xs, ys, zs, x, y, v, hq1, hq2, hq3, hx, hy, hv⟩ := hg
  obtain ⟨its1, rv1, p1, _⟩ := I.list hq1
  obtain ⟨its2, rv2, p2, _⟩ := I.list hq2
  obtain ⟨its3, rv3, p3, _⟩ := I.list hq3
  obtain ⟨u1, hu1, ru1⟩ := rv1.get hx
  obtain ⟨u2, hu2, ru2⟩ := rv2.get hy
  obtain ⟨u3, hu3, ru3⟩ := rv3.get hv
  obtain ⟨hz, hTI, ⟨a, b, c, hTO⟩, h1, h2, h3⟩ := st
  refine pyNext_zip3_item D (apart3_of hz hTO h1 h2 h3 p1.isList) (apart3_of hz hTO h1 h2 h3 p2.isList) (apart3_of hz hTO h1 h2 h3 p3.isList) hz hTI hTO h1 h2 h3 p1.isList p2.isList p3.isList (x := u1) (y := u2) (v := u3) (by simpa using hu1) (by simpa using hu2) (by simpa using hu3) fun h' a1 a2 a3 a4 a4' a5 a6 hk => ?_
  refine ⟨_, rfl, ?_⟩
  refine wpAny_letOwnedTupleGo_zip a1 fun h'' hz'' hs'' => ?_
  have hzs : z < s.heap.objs.size := Heap.lt_size hz
  have kk : ∀ c o, c ∉ [z, TI, TO, i1, i2, i3] -> s.heap.get? c = some o -> h''.get? c = some o := fun c o hc e => by
   simp only [mem_cons, not_mem_nil, or_false, not_or] at hc
   exact hs''.extBut _ _ hc.1 (hk c o hc.1 hc.2.2.1 hc.2.2.2.1 hc.2.2.2.2.1 hc.2.2.2.2.2 e)
  have hT : h''.get? s.heap.objs.size = some { cls := .type "tuple", data := .seq #[u1, u2, u3] } := hs''.extBut _ _ (Nat.ne_of_gt hzs) a5
  have I2 : Inv X pins σ (upd H s.heap.objs.size (.tup [x, y, v])) { s with heap := h'', toks := s.toks } :=
   I.turnedN (T := s.heap.objs.size) (o := .tup [x, y, v]) kk hf (Nat.le_refl _) ⟨by show 3 <= sizeLine; decide, [u1, u2, u3], .cons ru1 (.cons ru2 (.cons ru3 .nil)), ⟨_, hT, rfl, _, rfl⟩⟩
  refine ⟨.ref s.heap.objs.size, _, I2, rfl, ⟨_, x, y, v, rfl, I.fresh, rfl, fun zs hzs' => by rw [I.list_inj hzs' hq1]; exact hx, fun zs hzs' => by rw [I.list_inj hzs' hq2]; exact hy, fun zs hzs' => by rw [I.list_inj hzs' hq3]; exact hv⟩,
   ⟨hz'', hs''.extBut _ _ D.TIz (hk _ _ D.TIz D.TITO D.TIi1 D.TIi2 D.TIi3 hTI), ⟨_, _, _, hs''.extBut _ _ D.TOz a2⟩, a3.extBut hs''.extBut D.i1z, a4.extBut hs''.extBut D.i2z, a4'.extBut hs''.extBut D.i3z⟩, fun c hc' => ?_⟩
  have hlt : c < s.heap.objs.size := by
   obtain ⟨o1, e1, _⟩ := h1
   obtain ⟨o2, e2, _⟩ := h2
   obtain ⟨o3, e3, _⟩ := h3
   simp only [mem_cons, not_mem_nil, or_false] at hc'
   rcases hc' with rfl | rfl | rfl | rfl | rfl | rfl
   ·exact hzs
   ·exact Heap.lt_size hTI
   ·exact Heap.lt_size hTO
   ·exact Heap.lt_size e1
   ·exact Heap.lt_size e2
   ·exact Heap.lt_size e3
  rw [upd_ne (Nat.ne_of_lt hlt)]
  exact (hf c hc').1
 done := by
  intro X hP hw hK hc i pins s σ H E I hf st hg
  subst hP hw hK
  obtain ⟨xs, ys, zs, hq1, hq2, hq3, hl⟩ := hg
  obtain ⟨its1, rv1, p1, _⟩ := I.list hq1
  obtain ⟨its2, rv2, p2, _⟩ := I.list hq2
  obtain ⟨its3, rv3, p3, _⟩ := I.list hq3
  obtain ⟨hz, hTI, ⟨a, b, c, hTO⟩, h1, h2, h3⟩ := st
  have l1' := rv1.length
  have l2' := rv2.length
  have l3' := rv3.length
  refine pyNext_zip3_end (I.ok.hd hc) D (apart3_of hz hTO h1 h2 h3 p1.isList) (apart3_of hz hTO h1 h2 h3 p2.isList) (apart3_of hz hTO h1 h2 h3 p3.isList) hz hTI hTO h1 h2 h3 p1.isList p2.isList p3.isList ?_ fun h' hk => ⟨rfl, ?_⟩
  ·rcases hl with q | q | q
   ·exact .inl (by simp; omega)
   ·exact .inr (.inl (by simp; omega))
   ·exact .inr (.inr (by simp; omega))
  exact I.turnedL (t' := s.toks) (fun c o hc e => by
   simp only [mem_cons, not_mem_nil, or_false, not_or] at hc
   exact hk c o hc.1 hc.2.2.1 hc.2.2.2.1 hc.2.2.2.2.1 hc.2.2.2.2.2 e) hf
 self := fun _ _ _ _ _ st h => wpAny_pyIter_zip st.1 h
section
variable {X : Cx}
def iZip3 (K : W.Frag) (ta : TA) : TI := fun σ H R => ta σ H fun vs H1 => ∃ a b c xs ys zs, vs = [.ref a, .ref b, .ref c] /\ SqL K H1 a xs /\ SqL K H1 b ys /\ SqL K H1 c zs /\ R (Itz3 K a b c) H1
theorem pi_zip3 {a b c : Expr} {ta : TA} {p pos : Pos} {es : List Expr} {tk : Nat} {tp : Pos} (hg : Gl X "zip") (hm : X.mg "zip" = none) (ha : PA X [a, b, c] ta) (hs : starEach [a, b, c] X.env = (false, eval a X.env) :: starEach [b, c] X.env := by rfl) (hs2 : ∀ pos, ((backTo pos (starEach [b, c] X.env)).any fun x => x.1) = false := by intro _; rfl) :
  PI X (.Tuple es tk tp) (.Call (.Name "zip" p) [a, b, c] [] pos) (iZip3 X.K ta) := by
 intro pins s σ H R I h
 refine Call_ (ld_blt I hg hm boot_zip (PyProof.Rows.callWith_type1 (thn (ha pos pins s σ H _ I h) fun us s1 hpat => ?_) hs (hs2 _)))
 obtain ⟨vs, H1, I1, r1, q1⟩ := hpat
 obtain ⟨l1, l2, l3, xs, ys, zs, e, q1, q2, q3, q⟩ := q1
 subst e
 cases r1 with
 | cons r rr =>
  cases rr with
  | cons r' rr =>
   cases rr with
   | cons r'' rr =>
   cases rr
   cases r
   cases r'
   cases r''
   obtain ⟨its1, rv1, p1, _⟩ := I1.list q1
   obtain ⟨its2, rv2, p2, _⟩ := I1.list q2
   obtain ⟨its3, rv3, p3, _⟩ := I1.list q3
   refine call_zip_3 p1.isList p2.isList p3.isList fun h' hz hTI hTO hi1 hi2 hi3 hk => ?_
   have I2 : Inv X pins σ H1 { s1 with heap := h', toks := s1.toks } := I1.kept hk
   refine wpAny_pyIter_zip (s := { s1 with heap := h' }) hz ?_
   refine ⟨_, [s1.heap.objs.size + 5, s1.heap.objs.size + 3, s1.heap.objs.size + 4, s1.heap.objs.size, s1.heap.objs.size + 1, s1.heap.objs.size + 2], _, _, H1, rfl, I2, turn_zip3 _ _ _ _ _ _ l1 l2 l3 (zip3_new _),
    ⟨hz, hTI, ⟨_, _, _, hTO⟩, hi1, hi2, hi3⟩, fun b hb => ?_, q⟩
   have hb' : s1.heap.objs.size <= b := by
    simp only [mem_cons, not_mem_nil, or_false] at hb
    rcases hb with rfl | rfl | rfl | rfl | rfl | rfl
    ·exact Nat.le_add_right _ 5
    ·exact Nat.le_add_right _ 3
    ·exact Nat.le_add_right _ 4
    ·exact Nat.le_refl _
    ·exact Nat.le_add_right _ 1
    ·exact Nat.le_add_right _ 2
   exact I1.fpOk hb' (I1.hok.fresh hb')
end
def Ite (K : W.Frag) (l : Addr) : It :=
 ⟨fun i H => ∃ xs x, SqL K H l xs /\ xs[i]? = some x,
  fun i H v H' => ∃ t x, v = .ref t /\ H t = none /\ H' = upd H t (.tup [.int i, x]) /\ (∀ xs, SqL K H l xs -> xs[i]? = some x),
  fun i H => ∃ xs, SqL K H l xs /\ xs.length <= i⟩
theorem turn_enum {P : Program} {w : World} {K : W.Frag} {es : List Expr} {tk : Nat} {tp : Pos} (e it l : Addr) (hne : e ≠ it) :
  Turn P w K (.Tuple es tk tp) (Ite K l) [e, it] e (fun i h => (∃ old, IsEnum h e it (i : Nat) old) /\ h.IsListIter it l i) where
 mem := by simp
 obj := fun i h st b hb => by
  obtain ⟨⟨old, he⟩, ⟨o1, e1, _, d1⟩⟩ := st
  simp only [mem_cons, not_mem_nil, or_false] at hb
  rcases hb with rfl | rfl
  ·exact ⟨_, he, fun v q => by cases q⟩
  ·exact ⟨_, e1, fun v q => by rw [d1] at q; cases q⟩
 keep := fun i h h' st k => by
  obtain ⟨⟨old, he⟩, h1⟩ := st
  exact ⟨⟨old, k e (by simp) _ he⟩, h1.at fun o q => k it (by simp) o q⟩
 item := by
  intro X hP hw hK hc i pins s σ H E I hf st hg
  subst hP hw hK
  obtain ⟨xs, x, hq1, hx⟩ := hg
  obtain ⟨its1, rv1, p1, _⟩ := I.list hq1
  obtain ⟨u1, hu1, ru1⟩ := rv1.get hx
  obtain ⟨⟨old, he⟩, h1⟩ := st
  refine wpAny_pyNext_enum_item he h1 p1.isList (x := u1) (by simpa using hu1) hne fun h' a1 a2 a3 a4 hk => ?_
  refine ⟨_, rfl, ?_⟩
  refine wpAny_letOwnedTupleGo_enum a1 fun h'' he'' hs'' => ?_
  have hzs : e < s.heap.objs.size := Heap.lt_size he
  have kk : ∀ c o, c ∉ [e, it] -> s.heap.get? c = some o -> h''.get? c = some o := fun c o hc q => by
   simp only [mem_cons, not_mem_nil, or_false, not_or] at hc
   exact hs''.extBut _ _ hc.1 (hk c o hc.1 hc.2 q)
  have hT : h''.get? s.heap.objs.size = some { cls := .type "tuple", data := .seq #[.int i s.toks, u1] } := hs''.extBut _ _ (Nat.ne_of_gt hzs) a3
  have I2 : Inv X pins σ (upd H s.heap.objs.size (.tup [.int i, x])) { s with heap := h'', toks := s.toks + 1 } :=
   I.turnedN (T := s.heap.objs.size) (o := .tup [.int i, x]) kk hf (Nat.le_refl _) ⟨by show 2 <= sizeLine; decide, [.int i s.toks, u1], .cons ⟨_, rfl⟩ (.cons ru1 .nil), ⟨_, hT, rfl, _, rfl⟩⟩
  refine ⟨.ref s.heap.objs.size, _, I2, rfl, ⟨_, x, rfl, I.fresh, rfl, fun zs hzs' => by rw [I.list_inj hzs' hq1]; exact hx⟩,
   ⟨⟨_, he''⟩, a2.extBut hs''.extBut hne.symm⟩, fun c hc' => ?_⟩
  have hlt : c < s.heap.objs.size := by
   obtain ⟨o1, e1, _⟩ := h1
   simp only [mem_cons, not_mem_nil, or_false] at hc'
   rcases hc' with rfl | rfl
   ·exact hzs
   ·exact Heap.lt_size e1
  rw [upd_ne (Nat.ne_of_lt hlt)]
  exact (hf c hc').1
 done := by
  intro X hP hw hK hc i pins s σ H E I hf st hg
  subst hP hw hK
  obtain ⟨xs, hq1, hl⟩ := hg
  obtain ⟨its1, rv1, p1, _⟩ := I.list hq1
  obtain ⟨⟨old, he⟩, h1⟩ := st
  have l1' := rv1.length
  refine wpAny_pyNext_enum_end (I.ok.hd hc) he h1 p1.isList (by simp; omega) fun h' hk => ⟨rfl, ?_⟩
  exact I.turnedL (t' := s.toks) (fun c o hc q => by
   simp only [mem_cons, not_mem_nil, or_false, not_or] at hc
   exact hk c o hc.2 q) hf
 self := fun A i s Q E st h => by
  obtain ⟨⟨old, he⟩, h1⟩ := st
  have hT : s.TypeIs (.ref e) "enumerate" := ⟨_, he, rfl⟩
  refine wpAny_pyIter_slot hT F.slot_enumerate_iter (wpAny_call_entry F.slot_enumerate_iter hT F.entry_enumerate_iter ?_ (F.args_enumerate_iter_1 _))
  show wpAny _ _ (ret (.ref e)) _ _ s
  exact wpAny_pure ⟨_, rfl, "enumerate", _, hT, F.slot_enumerate_next.lookup, h⟩
section
variable {X : Cx}
def iEnum (K : W.Frag) (ta : TA) : TI := fun σ H R => ta σ H fun vs H1 => ∃ a xs, vs = [.ref a] /\ SqL K H1 a xs /\ R (Ite K a) H1
theorem pi_enum {a : Expr} {ta : TA} {p pos : Pos} {es : List Expr} {tk : Nat} {tp : Pos} (hg : Gl X "enumerate") (hm : X.mg "enumerate" = none) (ha : PA X [a] ta) (hs : starEach [a] X.env = [(false, eval a X.env)] := by rfl) :
  PI X (.Tuple es tk tp) (.Call (.Name "enumerate" p) [a] [] pos) (iEnum X.K ta) := by
 intro pins s σ H R I h
 refine Call_ (ld_blt I hg hm boot_enumerate (PyProof.Rows.callWith_type1 (thn (ha pos pins s σ H _ I h) fun us s1 hpat => ?_) hs rfl))
 obtain ⟨vs, H1, I1, r1, q1⟩ := hpat
 obtain ⟨l, xs, e, q1, q⟩ := q1
 subst e
 cases r1 with
 | cons r rr =>
  cases rr
  cases r
  obtain ⟨its1, rv1, p1, _⟩ := I1.list q1
  refine call_enumerate_list p1.isList fun h' he hit hsz hk => ?_
  have I2 : Inv X pins σ H1 { s1 with heap := h', toks := s1.toks } := I1.kept hk
  have hT : ({ s1 with heap := h' } : Shared).TypeIs (.ref (s1.heap.objs.size + 1)) "enumerate" := ⟨_, he, rfl⟩
  refine (turn_enum (P := X.prog) (w := X.w) (K := X.K) (es := es) (tk := tk) (tp := tp) (s1.heap.objs.size + 1) s1.heap.objs.size l (Nat.ne_of_gt (Nat.lt_succ_self _))).self X.A 0 { s1 with heap := h' } _ _ ⟨⟨_, he⟩, hit⟩ ?_
  refine ⟨_, [s1.heap.objs.size + 1, s1.heap.objs.size], _, _, H1, rfl, I2, turn_enum _ _ l (Nat.ne_of_gt (Nat.lt_succ_self _)), ⟨⟨_, he⟩, hit⟩, fun b hb => ?_, q⟩
  have hb' : s1.heap.objs.size <= b := by
   simp only [mem_cons, not_mem_nil, or_false] at hb
   rcases hb with rfl | rfl
   ·exact Nat.le_succ _
   ·exact Nat.le_refl _
  exact I1.fpOk hb' (I1.hok.fresh hb')
end
end
section
def XAt (a C : Addr) (h : Heap) : Prop := ∃ o vs, h.get? a = some o /\ o.cls = .ref C /\ o.data = .fields vs
def xName (K : W.Frag) (C : Addr) : Option Str := match K.lookup C with
 | some ⟨_, _, .cls cd, _⟩ => some cd.name
 | _ => none
inductive D where
 | non | bl (b : Bool) | int (i : Int) | str (x : Str) | lst (ds : List D) | tup (ds : List D) | exc (c : Str)
 | ptr (a : Addr) | obj (c : Str) (ns : List Str) (ds : List D)
mutual
inductive Rep (K : W.Frag) (F : Hp) : V -> D -> Prop
 | non : Rep K F .non .non
 | bl (b : Bool) : Rep K F (.bl b) (.bl b)
 | int (i : Int) : Rep K F (.int i) (.int i)
 | str (x : Str) : Rep K F (.str x) (.str x)
 | lst {a : Addr} {xs : List V} {ds : List D} : SqL K F a xs -> Reps K F xs ds -> Rep K F (.ref a) (.lst ds)
 | tup {a : Addr} {xs : List V} {ds : List D} : SqT K F a xs -> Reps K F xs ds -> Rep K F (.ref a) (.tup ds)
 | exc {a C : Addr} {c : Str} : (W.nsIn K mainGlobals c = some (some (.ref C)) /\ xName K C = some c) -> F a = some (.ext (XAt a C)) -> Rep K F (.ref a) (.exc c)
 | ptr (a : Addr) : Rep K F (.ref a) (.ptr a)
 | obj {a dx C : Addr} {c : Str} {ns : List Str} {xs : List V} {ds : List D} : W.nsIn K mainGlobals c = some (some (.ref C)) -> ns.length = xs.length -> F a = some (.ins C dx (ns.zip xs)) -> F dx = some (.own a) -> Reps K F xs ds -> Rep K F (.ref a) (.obj c ns ds)
inductive Reps (K : W.Frag) (F : Hp) : List V -> List D -> Prop
 | nil : Reps K F [] []
 | cons {v : V} {d : D} {vs : List V} {ds : List D} : Rep K F v d -> Reps K F vs ds -> Reps K F (v :: vs) (d :: ds)
end
theorem Same.seqT {K : W.Frag} {H H' : Hp} {a : Addr} {xs : List V} (e : Same H H') (h : SqT K H a xs) : SqT K H' a xs := by
 rcases h with (h | ⟨o, h⟩) | h
 ·exact .inl (.inl (e _ _ h))
 ·exact .inl (.inr ⟨o, e _ _ h⟩)
 ·exact .inr h
section
variable {K : W.Frag} {F F' : Hp}
mutual
theorem Rep.mono (e : Same F F') : ∀ {v : V} {d : D}, Rep K F v d -> Rep K F' v d
 | _, _, .non => .non
 | _, _, .bl b => .bl b
 | _, _, .int i => .int i
 | _, _, .str x => .str x
 | _, _, .lst h r => .lst (e.seq h) (Reps.mono e r)
 | _, _, .tup h r => .tup (e.seqT h) (Reps.mono e r)
 | _, _, .exc h r => .exc h (e _ _ r)
 | _, _, .ptr a => .ptr a
 | _, _, .obj c l h h2 r => .obj c l (e _ _ h) (e _ _ h2) (Reps.mono e r)
theorem Reps.mono (e : Same F F') : ∀ {vs : List V} {ds : List D}, Reps K F vs ds -> Reps K F' vs ds
 | _, _, .nil => .nil
 | _, _, .cons h r => .cons (Rep.mono e h) (Reps.mono e r)
end
theorem Reps.length : ∀ {vs : List V} {ds : List D}, Reps K F vs ds -> vs.length = ds.length
 | _, _, .nil => rfl
 | _, _, .cons _ r => congrArg (· + 1) (Reps.length r)
theorem Reps.get : ∀ {vs : List V} {ds : List D} {i : Nat} {d : D}, Reps K F vs ds -> ds[i]? = some d -> ∃ v, vs[i]? = some v /\ Rep K F v d
 | _, _, _, _, .nil, e => by simp at e
 | _, _, 0, _, .cons h _, e => by simp at e; subst e; exact ⟨_, rfl, h⟩
 | _, _, i + 1, d, .cons _ r, e => by
  obtain ⟨v, h1, h2⟩ := Reps.get (i := i) (d := d) r (by simpa using e)
  exact ⟨v, by simpa using h1, h2⟩
theorem Reps.get' : ∀ {vs : List V} {ds : List D} {i : Nat} {v : V}, Reps K F vs ds -> vs[i]? = some v -> ∃ d, ds[i]? = some d /\ Rep K F v d
 | _, _, _, _, .nil, e => by simp at e
 | _, _, 0, _, .cons h _, e => by simp at e; subst e; exact ⟨_, rfl, h⟩
 | _, _, i + 1, d, .cons _ r, e => by
  obtain ⟨v, h1, h2⟩ := Reps.get' (i := i) (v := d) r (by simpa using e)
  exact ⟨v, by simpa using h1, h2⟩
theorem Reps.append : ∀ {vs ws : List V} {ds es : List D}, Reps K F vs ds -> Reps K F ws es -> Reps K F (vs ++ ws) (ds ++ es)
 | _, _, _, _, .nil, s => s
 | _, _, _, _, .cons h r, s => .cons h (Reps.append r s)
theorem Reps.take : ∀ {vs : List V} {ds : List D} (n : Nat), Reps K F vs ds -> Reps K F (vs.take n) (ds.take n)
 | _, _, 0, _ => .nil
 | _, _, _ + 1, .nil => .nil
 | _, _, n + 1, .cons h r => .cons h (Reps.take n r)
theorem Reps.drop : ∀ {vs : List V} {ds : List D} (n : Nat), Reps K F vs ds -> Reps K F (vs.drop n) (ds.drop n)
 | _, _, 0, r => r
 | _, _, _ + 1, .nil => .nil
 | _, _, n + 1, .cons _ r => Reps.drop n r
theorem Reps.set {v : V} {d : D} (h : Rep K F v d) : ∀ {vs : List V} {ds : List D} (i : Nat), Reps K F vs ds -> Reps K F (vs.set i v) (ds.set i d)
 | _, _, _, .nil => .nil
 | _, _, 0, .cons _ r => .cons h r
 | _, _, i + 1, .cons q r => .cons q (Reps.set h i r)
theorem Reps.reverse {vs : List V} {ds : List D} (h : Reps K F vs ds) : Reps K F vs.reverse ds.reverse := by
 induction vs generalizing ds with
 | nil => cases h; exact .nil
 | cons v vs ih =>
  cases h with
  | cons h r => rw [reverse_cons, reverse_cons]; exact (ih r).append (.cons h .nil)
end
structure Ext (F H F' H' : Hp) : Prop where
 ff : Same F F'
 hh : Same H H'
 fh : Same F' H'
 new : ∀ b, F b = none -> F' b ≠ none -> H b = none
 nf : ∀ b o u, F' b = some (.frz o u) -> F b = some (.frz o u)
theorem Ext.refl {F H : Hp} (h : Same F H) : Ext F H F H := ⟨Same.refl _, Same.refl _, h, fun b e n => absurd e n, fun _ _ _ z => z⟩
theorem Ext.trans {F H F1 H1 F2 H2 : Hp} (a : Ext F H F1 H1) (b : Ext F1 H1 F2 H2) : Ext F H F2 H2 :=
 ⟨a.ff.trans b.ff, a.hh.trans b.hh, b.fh, fun c e n => by
  by_cases h : F1 c = none
  ·exact a.hh.free (b.new c h n)
  ·exact a.new c e h, fun c o u z => a.nf c o u (b.nf c o u z)⟩
theorem Same.put {F H : Hp} {p : Addr} {o : HO} (h : Same F H) (hp : F p = none) : Same F (upd H p o) := fun b u e => by
 rw [upd_ne (ne_of_none e hp)]; exact h b u e
theorem Same.put2 {F H : Hp} {p : Addr} {o : HO} (h : Same F H) : Same (upd F p o) (upd H p o) := fun b u e => by
 by_cases hb : b = p
 ·subst hb; rw [upd_same] at e ⊢; exact e
 ·rw [upd_ne hb] at e ⊢; exact h b u e
theorem Ext.laid {F H : Hp} {p : Addr} {o : HO} (h : Same F H) (hp : H p = none) (hz : ∀ a u, o ≠ .frz a u := by intro _ _ z; cases z) : Ext F H (upd F p o) (upd H p o) :=
 ⟨(Same.refl F).put (h.free hp), (Same.refl H).put hp, h.put2, fun b e n => by
  by_cases hb : b = p
  ·subst hb; exact hp
  ·rw [upd_ne hb] at n; exact absurd e n, fun b a u z => by
  by_cases hb : b = p
  ·subst hb; rw [upd_same] at z; exact absurd (Option.some.inj z) (hz a u)
  ·rw [upd_ne hb] at z; exact z⟩
theorem Ext.own {F H : Hp} {p : Addr} {o : HO} (h : Same F H) (hp : H p = none) : Ext F H F (upd H p o) :=
 ⟨Same.refl F, (Same.refl H).put hp, h.put (h.free hp), fun b e n => absurd e n, fun _ _ _ z => z⟩
theorem Ext.freeze {F H F' H' : Hp} {p : Addr} {o : HO} (a : Ext F H F' H') (hp' : F' p = none) (hp : H p = none) (ho : H' p = some o) (hz : ∀ a u, o ≠ .frz a u := by intro _ _ z; cases z) : Ext F H (upd F' p o) H' :=
 ⟨a.ff.put (a.ff.free hp'), a.hh, fun b u e => by
   by_cases hb : b = p
   ·subst hb; rw [upd_same] at e; cases e; exact ho
   ·rw [upd_ne hb] at e; exact a.fh b u e, fun b e n => by
   by_cases hb : b = p
   ·subst hb; exact hp
   ·rw [upd_ne hb] at n; exact a.new b e n, fun b c u z => by
   by_cases hb : b = p
   ·subst hb; rw [upd_same] at z; exact absurd (Option.some.inj z) (hz c u)
   ·rw [upd_ne hb] at z; exact a.nf b c u z⟩
inductive S where
 | sh (d : D) | own (ds : List D) | ob (p : Addr) (ds : List D)
abbrev Ro := List (Option S)
structure Rl (K : W.Frag) (F0 H0 F H : Hp) (σ : St) (ρ : Ro) : Prop where
 ext : Ext F0 H0 F H
 len : σ.length = ρ.length
 sh : ∀ (i : Nat) d, ρ[i]? = some (some (.sh d)) -> ∃ v, σ[i]? = some (some v) /\ Rep K F v d
 own : ∀ (i : Nat) ds, ρ[i]? = some (some (.own ds)) -> ∃ p xs, σ[i]? = some (some (.ref p)) /\ F p = none /\ H p = some (.lst xs) /\ Reps K F xs ds /\ H0 p = none
 inj : ∀ (i j : Nat) p ds es, i ≠ j -> ρ[i]? = some (some (.own ds)) -> ρ[j]? = some (some (.own es)) -> σ[i]? = some (some (.ref p)) -> σ[j]? = some (some (.ref p)) -> False
 ob : ∀ (i : Nat) p ds, ρ[i]? = some (some (.ob p ds)) -> σ[i]? = some (some (.ref p)) /\ F p = none /\ H0 p = none /\ ∃ xs, H p = some (.lst xs) /\ Reps K F xs ds
 obn : ∀ (i j : Nat) p ds es, ρ[i]? = some (some (.ob p ds)) -> ρ[j]? = some (some (.own es)) -> σ[j]? = some (some (.ref p)) -> False
 ob1 : ∀ (i j : Nat) p q ds es, ρ[i]? = some (some (.ob p ds)) -> ρ[j]? = some (some (.ob q es)) -> i = j
def nob : Option S -> Prop
 | some (.ob _ _) => False
 | _ => True
theorem set_ob {ρ : Ro} {i j : Nat} {x : Option S} {p : Addr} {ds : List D} (e : (ρ.set i x)[j]? = some (some (.ob p ds))) (hx : nob x := by exact True.intro) : i ≠ j /\ ρ[j]? = some (some (.ob p ds)) := by
 by_cases hj : i = j
 ·subst hj
  rcases Nat.lt_or_ge i ρ.length with z | z
  ·rw [getElem?_set_self z] at e; cases e; exact hx.elim
  ·rw [getElem?_eq_none (by simpa using z)] at e; cases e
 ·rw [getElem?_set_ne hj] at e; exact ⟨hj, e⟩
section
variable {K : W.Frag} {F0 H0 F H F' H' : Hp} {σ : St} {ρ : Ro}
theorem Rl.fh (r : Rl K F0 H0 F H σ ρ) : Same F H := r.ext.fh
theorem Rl.go (r : Rl K F0 H0 F H σ ρ) (e : Ext F H F' H') : Rl K F0 H0 F' H' σ ρ where
 ext := r.ext.trans e
 len := r.len
 sh := fun i d h => let ⟨v, a, b⟩ := r.sh i d h; ⟨v, a, b.mono e.ff⟩
 own := fun i ds h => by
  obtain ⟨p, xs, a, b, c, d, z⟩ := r.own i ds h
  refine ⟨p, xs, a, ?_, e.hh _ _ c, d.mono e.ff, z⟩
  cases q : F' p with
  | none => rfl
  | some o => have := e.new p b (by rw [q]; simp); rw [this] at c; cases c
 inj := r.inj
 ob := fun i p ds h => by
  obtain ⟨a, b, c, xs, d, z⟩ := r.ob i p ds h
  refine ⟨a, ?_, c, xs, e.hh _ _ d, z.mono e.ff⟩
  cases q : F' p with
  | none => rfl
  | some o => have := e.new p b (by rw [q]; simp); rw [this] at d; cases d
 obn := r.obn
 ob1 := r.ob1
theorem Rl.set (r : Rl K F0 H0 F H σ ρ) {i : Nat} {v : V} {d : D} (h : Rep K F v d) : Rl K F0 H0 F H (σ.set i (some v)) (ρ.set i (some (.sh d))) where
 ext := r.ext
 len := by simp [r.len]
 sh := fun j d' e => by
  by_cases hj : i = j
  ·subst hj
   have hl : i < ρ.length := by
    rcases Nat.lt_or_ge i ρ.length with z | z
    ·exact z
    ·rw [getElem?_eq_none (by simpa using z)] at e; cases e
   rw [getElem?_set_self hl] at e
   cases e
   exact ⟨v, by rw [getElem?_set_self (by rw [r.len]; exact hl)], h⟩
  ·rw [getElem?_set_ne hj] at e ⊢
   exact r.sh j d' e
 own := fun j ds e => by
  by_cases hj : i = j
  ·subst hj
   have hl : i < ρ.length := by
    rcases Nat.lt_or_ge i ρ.length with z | z
    ·exact z
    ·rw [getElem?_eq_none (by simpa using z)] at e; cases e
   rw [getElem?_set_self hl] at e
   cases e
  ·rw [getElem?_set_ne hj] at e ⊢
   exact r.own j ds e
 inj := fun j k p ds es hjk e1 e2 e3 e4 => by
  have n1 : i ≠ j := fun z => by
   subst z
   have hl : i < ρ.length := by
    rcases Nat.lt_or_ge i ρ.length with z | z
    ·exact z
    ·rw [getElem?_eq_none (by simpa using z)] at e1; cases e1
   rw [getElem?_set_self hl] at e1; cases e1
  have n2 : i ≠ k := fun z => by
   subst z
   have hl : i < ρ.length := by
    rcases Nat.lt_or_ge i ρ.length with z | z
    ·exact z
    ·rw [getElem?_eq_none (by simpa using z)] at e2; cases e2
   rw [getElem?_set_self hl] at e2; cases e2
  rw [getElem?_set_ne n1] at e1 e3
  rw [getElem?_set_ne n2] at e2 e4
  exact r.inj j k p ds es hjk e1 e2 e3 e4
 ob := fun j p ds e => by
  obtain ⟨n, e⟩ := set_ob e
  rw [getElem?_set_ne n]; exact r.ob j p ds e
 obn := fun j k p ds es e1 e2 e3 => by
  obtain ⟨n, e1⟩ := set_ob e1
  have n2 : i ≠ k := fun z => by
   subst z
   have hl : i < ρ.length := by
    rcases Nat.lt_or_ge i ρ.length with z | z
    ·exact z
    ·rw [getElem?_eq_none (by simpa using z)] at e2; cases e2
   rw [getElem?_set_self hl] at e2; cases e2
  rw [getElem?_set_ne n2] at e2 e3
  exact r.obn j k p ds es e1 e2 e3
 ob1 := fun j k p q ds es e1 e2 => r.ob1 j k p q ds es (set_ob e1).2 (set_ob e2).2
theorem Rl.setOwn (r : Rl K F0 H0 F H σ ρ) {i : Nat} {p : Addr} {xs : List V} {ds : List D} (hF : F p = none) (hH : H p = some (.lst xs)) (h : Reps K F xs ds) (h0 : H0 p = none)
  (fr : ∀ (j : Nat) es, i ≠ j -> ρ[j]? = some (some (.own es)) -> σ[j]? = some (some (.ref p)) -> False) (fo : ∀ (j : Nat) q es, ρ[j]? = some (some (.ob q es)) -> q ≠ p) : Rl K F0 H0 F H (σ.set i (some (.ref p))) (ρ.set i (some (.own ds))) where
 ext := r.ext
 len := by simp [r.len]
 sh := fun j d' e => by
  by_cases hj : i = j
  ·subst hj
   have hl : i < ρ.length := by
    rcases Nat.lt_or_ge i ρ.length with z | z
    ·exact z
    ·rw [getElem?_eq_none (by simpa using z)] at e; cases e
   rw [getElem?_set_self hl] at e
   cases e
  ·rw [getElem?_set_ne hj] at e ⊢
   exact r.sh j d' e
 own := fun j es e => by
  by_cases hj : i = j
  ·subst hj
   have hl : i < ρ.length := by
    rcases Nat.lt_or_ge i ρ.length with z | z
    ·exact z
    ·rw [getElem?_eq_none (by simpa using z)] at e; cases e
   rw [getElem?_set_self hl] at e
   cases e
   exact ⟨p, xs, by rw [getElem?_set_self (by rw [r.len]; exact hl)], hF, hH, h, h0⟩
  ·rw [getElem?_set_ne hj] at e ⊢
   exact r.own j es e
 inj := fun j k q es es' hjk e1 e2 e3 e4 => by
  by_cases n1 : i = j
  ·subst n1
   rw [getElem?_set_ne hjk] at e2 e4
   have hl : i < σ.length := by
    rcases Nat.lt_or_ge i σ.length with z | z
    ·exact z
    ·rw [getElem?_eq_none (by simpa using z)] at e3; cases e3
   rw [getElem?_set_self hl] at e3
   cases e3
   exact fr k es' hjk e2 e4
  ·rw [getElem?_set_ne n1] at e1 e3
   by_cases n2 : i = k
   ·subst n2
    have hl : i < σ.length := by
     rcases Nat.lt_or_ge i σ.length with z | z
     ·exact z
     ·rw [getElem?_eq_none (by simpa using z)] at e4; cases e4
    rw [getElem?_set_self hl] at e4
    cases e4
    exact fr j es n1 e1 e3
   ·rw [getElem?_set_ne n2] at e2 e4
    exact r.inj j k q es es' hjk e1 e2 e3 e4
 ob := fun j q es e => by
  obtain ⟨n, e⟩ := set_ob e
  rw [getElem?_set_ne n]; exact r.ob j q es e
 obn := fun j k q es es' e1 e2 e3 => by
  obtain ⟨n, e1⟩ := set_ob e1
  by_cases n2 : i = k
  ·subst n2
   have hl : i < σ.length := by
    rcases Nat.lt_or_ge i σ.length with z | z
    ·exact z
    ·rw [getElem?_eq_none (by simpa using z)] at e3; cases e3
   rw [getElem?_set_self hl] at e3
   cases e3
   exact fo j p es e1 rfl
  ·rw [getElem?_set_ne n2] at e2 e3
   exact r.obn j k q es es' e1 e2 e3
 ob1 := fun j k p q ds es e1 e2 => r.ob1 j k p q ds es (set_ob e1).2 (set_ob e2).2
theorem Rl.freeze (r : Rl K F0 H0 F H σ ρ) {i : Nat} {ds : List D} (h : ρ[i]? = some (some (.own ds))) : ∃ F', Rl K F0 H0 F' H σ (ρ.set i (some (.sh (.lst ds)))) /\ Same F F' := by
 obtain ⟨p, xs, a, b, c, d, z⟩ := r.own i ds h
 have hl : i < ρ.length := (List.getElem?_eq_some_iff.mp h).1
 have e : Ext F0 H0 (upd F p (.lst xs)) H := r.ext.freeze b z c
 have ff : Same F (upd F p (.lst xs)) := (Same.refl F).put b
 refine ⟨upd F p (.lst xs), ⟨e, by simp [r.len], fun j d' q => ?_, fun j es q => ?_, fun j k q es es' hjk e1 e2 e3 e4 => ?_, fun j q es e1 => ?_, fun j k q es es' e1 e2 e3 => ?_, fun j k q q' es es' e1 e2 => r.ob1 j k q q' es es' (set_ob e1).2 (set_ob e2).2⟩, ff⟩
 ·by_cases hj : i = j
  ·subst hj
   rw [getElem?_set_self hl] at q
   cases q
   exact ⟨_, a, .lst (SqL.of upd_same) (d.mono ff)⟩
  ·rw [getElem?_set_ne hj] at q
   obtain ⟨v, v1, v2⟩ := r.sh j d' q
   exact ⟨v, v1, v2.mono ff⟩
 ·by_cases hj : i = j
  ·subst hj
   rw [getElem?_set_self hl] at q
   cases q
  ·rw [getElem?_set_ne hj] at q
   obtain ⟨p', xs', a', b', c', d', z'⟩ := r.own j es q
   have hp : p' ≠ p := fun w => r.inj i j p ds es hj h q a (by rw [<- w]; exact a')
   exact ⟨p', xs', a', by rw [upd_ne hp]; exact b', c', d'.mono ff, z'⟩
 ·have n1 : i ≠ j := fun w => by subst w; rw [getElem?_set_self hl] at e1; cases e1
  have n2 : i ≠ k := fun w => by subst w; rw [getElem?_set_self hl] at e2; cases e2
  rw [getElem?_set_ne n1] at e1
  rw [getElem?_set_ne n2] at e2
  exact r.inj j k q es es' hjk e1 e2 e3 e4
 ·obtain ⟨n, e1⟩ := set_ob e1
  obtain ⟨o1, o2, o3, zs, o4, o5⟩ := r.ob j q es e1
  have hp : q ≠ p := fun w => r.obn j i q es ds e1 h (by rw [w]; exact a)
  exact ⟨o1, by rw [upd_ne hp]; exact o2, o3, zs, o4, o5.mono ff⟩
 ·obtain ⟨n, e1⟩ := set_ob e1
  have n2 : i ≠ k := fun w => by subst w; rw [getElem?_set_self hl] at e2; cases e2
  rw [getElem?_set_ne n2] at e2
  exact r.obn j k q es es' e1 e2 e3
theorem Rl.write (r : Rl K F0 H0 F H σ ρ) {i : Nat} {p : Addr} {ys : List V} {ds es : List D} (h : ρ[i]? = some (some (.own ds))) (hp : σ[i]? = some (some (.ref p))) (hy : Reps K F ys es) :
  Rl K F0 H0 F (upd H p (.lst ys)) σ (ρ.set i (some (.own es))) := by
 obtain ⟨p', xs', a, b, c, d, z⟩ := r.own i ds h
 rw [hp] at a; cases a
 have hl : i < ρ.length := (List.getElem?_eq_some_iff.mp h).1
 refine ⟨⟨r.ext.ff, r.ext.hh.put z, r.ext.fh.put b, r.ext.new, r.ext.nf⟩, by simp [r.len], fun j d' q => ?_, fun j fs q => ?_, fun j k q fs fs' hjk e1 e2 e3 e4 => ?_, fun j q fs e1 => ?_, fun j k q fs fs' e1 e2 e3 => ?_, fun j k q q' es es' e1 e2 => r.ob1 j k q q' es es' (set_ob e1).2 (set_ob e2).2⟩
 ·by_cases hj : i = j
  ·subst hj
   rw [getElem?_set_self hl] at q
   cases q
  ·rw [getElem?_set_ne hj] at q
   exact r.sh j d' q
 ·by_cases hj : i = j
  ·subst hj
   rw [getElem?_set_self hl] at q
   cases q
   exact ⟨p, ys, hp, b, upd_same, hy, z⟩
  ·rw [getElem?_set_ne hj] at q
   obtain ⟨p2, xs2, a2, b2, c2, d2, z2⟩ := r.own j fs q
   have hpp : p2 ≠ p := fun w => r.inj i j p ds fs hj h q hp (by rw [<- w]; exact a2)
   exact ⟨p2, xs2, a2, b2, by rw [upd_ne hpp]; exact c2, d2, z2⟩
 ·have back : ∀ (m : Nat) gs, (ρ.set i (some (S.own es)))[m]? = some (some (.own gs)) -> ∃ gs', ρ[m]? = some (some (.own gs')) := fun m gs e => by
   by_cases hm : i = m
   ·subst hm; exact ⟨ds, h⟩
   ·rw [getElem?_set_ne hm] at e; exact ⟨gs, e⟩
  obtain ⟨g1, e1⟩ := back j fs e1
  obtain ⟨g2, e2⟩ := back k fs' e2
  exact r.inj j k q g1 g2 hjk e1 e2 e3 e4
 ·obtain ⟨n, e1⟩ := set_ob e1
  obtain ⟨o1, o2, o3, zs, o4, o5⟩ := r.ob j q fs e1
  have hpp : q ≠ p := fun w => r.obn j i q fs ds e1 h (by rw [w]; exact hp)
  exact ⟨o1, o2, o3, zs, by rw [upd_ne hpp]; exact o4, o5⟩
 ·obtain ⟨n, e1⟩ := set_ob e1
  by_cases n2 : i = k
  ·subst n2; exact r.obn j i q fs ds e1 h e3
  ·rw [getElem?_set_ne n2] at e2
   exact r.obn j k q fs fs' e1 e2 e3
end
theorem Rep.n' {K : W.Frag} {F : Hp} {x : V} (r : Rep K F x .non) : x = .non := by cases r; rfl
theorem Rep.b' {K : W.Frag} {F : Hp} {x : V} {i : Bool} (r : Rep K F x (.bl i)) : x = .bl i := by cases r; rfl
theorem Rep.i' {K : W.Frag} {F : Hp} {x : V} {i : Int} (r : Rep K F x (.int i)) : x = .int i := by cases r; rfl
theorem Rep.s' {K : W.Frag} {F : Hp} {x : V} {i : Str} (r : Rep K F x (.str i)) : x = .str i := by cases r; rfl
theorem Rep.l' {K : W.Frag} {F : Hp} {x : V} {ds : List D} (r : Rep K F x (.lst ds)) : ∃ a xs, x = .ref a /\ SqL K F a xs /\ Reps K F xs ds := by cases r with | lst s r => exact ⟨_, _, rfl, s, r⟩
theorem Rep.t' {K : W.Frag} {F : Hp} {x : V} {ds : List D} (r : Rep K F x (.tup ds)) : ∃ a xs, x = .ref a /\ SqT K F a xs /\ Reps K F xs ds := by cases r with | tup s r => exact ⟨_, _, rfl, s, r⟩
end
section
abbrev ME := Ro -> Option D
abbrev ML := Ro -> Option (List D)
abbrev MB := Ro -> Option Bool
def TD (K : W.Frag) (m : ME) : TE := fun σ H Q => ∃ F0 H0 F ρ d, Rl K F0 H0 F H σ ρ /\ m ρ = some d /\ ∀ v F' H', Ext F H F' H' -> Rep K F' v d -> Q v H'
def TF (K : W.Frag) (m : ML) : TE := fun σ H Q => ∃ F0 H0 F ρ ds, Rl K F0 H0 F H σ ρ /\ m ρ = some ds /\ ∀ p xs F' H', Ext F H F' H' -> H p = none -> F' p = none -> H' p = some (.lst xs) -> Reps K F' xs ds -> Q (.ref p) H'
def TB (K : W.Frag) (m : ML) : TE := fun σ H Q => ∃ F0 H0 F ρ ds, Rl K F0 H0 F H σ ρ /\ m ρ = some ds /\ ∀ p xs F' H', Ext F H F' H' -> SqL K H' p xs -> Reps K F' xs ds -> Q (.ref p) H'
def TC (K : W.Frag) (c : MB) : TT := fun σ H Q => ∃ F0 H0 F ρ b, Rl K F0 H0 F H σ ρ /\ c ρ = some b /\ ∀ F' H', Ext F H F' H' -> Q b H'
def TAs (K : W.Frag) (m : ML) : TA := fun σ H Q => ∃ F0 H0 F ρ ds, Rl K F0 H0 F H σ ρ /\ m ρ = some ds /\ ∀ vs F' H', Ext F H F' H' -> Reps K F' vs ds -> Q vs H'
def PD (X : Cx) (e : Expr) (m : ME) : Prop := PE X e (TD X.K m)
def PF (X : Cx) (e : Expr) (m : ML) : Prop := PE X e (TF X.K m)
def PB (X : Cx) (e : Expr) (m : ML) : Prop := PE X e (TB X.K m)
def PC' (X : Cx) (e : Expr) (c : MB) : Prop := PT X e (TC X.K c)
def PCw (X : Cx) (e : Expr) (c : MB) : Prop := PW X e (TC X.K c)
def PAs (X : Cx) (es : List Expr) (m : ML) : Prop := PA X es (TAs X.K m)
section
variable {X : Cx} {a b c e : Expr} {ma mb : ME} {pos : Pos}
theorem PE.imp {t t' : TE} (h : PE X e t) (i : ∀ σ H Q, t' σ H Q -> t σ H Q) : PE X e t' := fun pins s σ H Q I q => h pins s σ H Q I (i σ H Q q)
theorem PT.imp {t t' : TT} (h : PT X e t) (i : ∀ σ H Q, t' σ H Q -> t σ H Q) : PT X e t' := fun pins s σ H Q I q => h pins s σ H Q I (i σ H Q q)
theorem PW.imp {t t' : TT} (h : PW X e t) (i : ∀ σ H Q, t' σ H Q -> t σ H Q) : PW X e t' := fun w pins s σ H Q I q => h w pins s σ H Q I (i σ H Q q)
theorem PA.imp {es : List Expr} {t t' : TA} (h : PA X es t) (i : ∀ σ H Q, t' σ H Q -> t σ H Q) : PA X es t' := fun pos pins s σ H Q I q => h pos pins s σ H Q I (i σ H Q q)
def mvar (i : Nat) : ME := fun ρ => match ρ[i]? with | some (some (.sh d)) => some d | _ => none
def bvar (i : Nat) : ML := fun ρ => match ρ[i]? with | some (some (.sh (.lst ds))) => some ds | some (some (.own ds)) => some ds | some (some (.ob _ ds)) => some ds | _ => none
def mc (d : D) : ME := fun _ => some d
theorem pd_var (i : Nat) {x : Str} {pos : Pos} (h : PE X (.Name x pos) (tVar i)) : PD X (.Name x pos) (mvar i) := h.imp fun σ H Q hpat => by
 obtain ⟨F0, H0, F, ρ, d, r, e, q⟩ := hpat
 unfold mvar at e
 split at e
 ·rename_i h'
  cases e
  obtain ⟨v, e1, e2⟩ := r.sh i _ h'
  exact ⟨v, e1, q v F H (.refl r.fh) e2⟩
 ·cases e
theorem pb_var (i : Nat) {x : Str} {pos : Pos} (h : PE X (.Name x pos) (tVar i)) : PB X (.Name x pos) (bvar i) := h.imp fun σ H Q hpat => by
 obtain ⟨F0, H0, F, ρ, d, r, e, q⟩ := hpat
 unfold bvar at e
 split at e
 ·rename_i ds h'
  cases e
  obtain ⟨v, e1, e2⟩ := r.sh i _ h'
  cases e2 with
  | lst s rs => exact ⟨_, e1, q _ _ F H (.refl r.fh) (r.fh.seq s) rs⟩
 ·rename_i ds h'
  cases e
  obtain ⟨p, xs, e1, e2, e3, e4, _⟩ := r.own i _ h'
  exact ⟨_, e1, q _ _ F H (.refl r.fh) (SqL.of e3) e4⟩
 ·rename_i p ds h'
  cases e
  obtain ⟨e1, e2, _, xs, e3, e4⟩ := r.ob i p _ h'
  exact ⟨_, e1, q _ _ F H (.refl r.fh) (SqL.of e3) e4⟩
 ·cases e
theorem pd_int {i : Int} {j pos} : PD X (.Constant (.int i) j pos) (mc (.int i)) := pe_int.imp fun σ H Q hpat => by
 obtain ⟨F0, H0, F, ρ, d, r, e, q⟩ := hpat
 cases e; exact q _ F H (.refl r.fh) (.int i)
theorem pd_bl {b : Bool} {j pos} : PD X (.Constant (.bool b) j pos) (mc (.bl b)) := pe_bl.imp fun σ H Q hpat => by
 obtain ⟨F0, H0, F, ρ, d, r, e, q⟩ := hpat
 cases e; exact q _ F H (.refl r.fh) (.bl b)
theorem pd_non {j pos} : PD X (.Constant .none j pos) (mc .non) := pe_non.imp fun σ H Q hpat => by
 obtain ⟨F0, H0, F, ρ, d, r, e, q⟩ := hpat
 cases e; exact q _ F H (.refl r.fh) .non
theorem pd_str {x : Str} {j pos} : PD X (.Constant (.str x) j pos) (mc (.str x)) := pe_str.imp fun σ H Q hpat => by
 obtain ⟨F0, H0, F, ρ, d, r, e, q⟩ := hpat
 cases e; exact q _ F H (.refl r.fh) (.str x)
def mlst (m : ML) : ME := fun ρ => (m ρ).map .lst
def aslst (m : ME) : ML := fun ρ => match m ρ with | some (.lst ds) => some ds | _ => none
theorem pf_pd {m : ML} (h : PF X e m) : PD X e (mlst m) := h.imp fun σ H Q hpat => by
 obtain ⟨F0, H0, F, ρ, d, r, e, q⟩ := hpat
 unfold mlst at e
 cases hm : m ρ with
 | none => rw [hm] at e; cases e
 | some ds =>
  rw [hm] at e; cases e
  refine ⟨F0, H0, F, ρ, ds, r, hm, fun p xs F' H' x hp hF hH rs => ?_⟩
  exact q _ (upd F' p (.lst xs)) H' (x.freeze hF hp hH) (.lst (SqL.of upd_same) (rs.mono ((Same.refl F').put hF)))
theorem pd_pb (h : PD X e ma) : PB X e (aslst ma) := h.imp fun σ H Q hpat => by
 obtain ⟨F0, H0, F, ρ, d, r, e, q⟩ := hpat
 unfold aslst at e
 split at e
 ·rename_i ds hm
  cases e
  refine ⟨F0, H0, F, ρ, _, r, hm, fun v F' H' x rv => ?_⟩
  cases rv with
  | lst s rs => exact q _ _ F' H' x (x.fh.seq s) rs
 ·cases e
theorem pf_pb {m : ML} (h : PF X e m) : PB X e m := h.imp fun σ H Q ⟨F0, H0, F, ρ, d, r, e, q⟩ =>
 ⟨F0, H0, F, ρ, d, r, e, fun p xs F' H' x hp hF hH rs => q p xs F' H' x (SqL.of hH) rs⟩
@[irreducible] def m2 (f : D -> D -> Option D) (x y : ME) : ME := fun ρ => (x ρ).bind fun d => (y ρ).bind fun e => f d e
def OpD (K : W.Frag) (r : R2) (f : D -> D -> Option D) : Prop := ∀ (F H : Hp) (x y : V) (d e g : D) (Q : VK), Same F H -> Rep K F x d -> Rep K F y e -> f d e = some g -> (∀ v F' H', Ext F H F' H' -> Rep K F' v g -> Q v H') -> r x y H Q
theorem m2_some {f : D -> D -> Option D} {ρ : Ro} {g : D} (h : m2 f ma mb ρ = some g) : ∃ d e, ma ρ = some d /\ mb ρ = some e /\ f d e = some g := by
 unfold m2 at h
 cases h1 : ma ρ with
 | none => rw [h1] at h; cases h
 | some d =>
  cases h2 : mb ρ with
  | none => rw [h1, h2] at h; cases h
  | some e => rw [h1, h2] at h; exact ⟨d, e, rfl, rfl, h⟩
theorem op_d {r : R2} {f : D -> D -> Option D} (hf : OpD X.K r f) {σ : St} {H : Hp} {Q : VK} (h : TD X.K (m2 f ma mb) σ H Q) : tOp r (TD X.K ma) (TD X.K mb) σ H Q := by
 obtain ⟨F0, H0, F, ρ, g, rl, e, q⟩ := h
 obtain ⟨d, e', h1, h2, h3⟩ := m2_some e
 refine ⟨F0, H0, F, ρ, d, rl, h1, fun x F1 H1 x1 r1 => ⟨F0, H0, F1, ρ, e', rl.go x1, h2, fun y F2 H2 x2 r2 => ?_⟩⟩
 exact hf F2 H2 x y d e' g Q x2.fh (r1.mono x2.ff) r2 h3 fun v F' H' x3 => q v F' H' ((x1.trans x2).trans x3)
theorem pd_op {op : Operator} {r : R2} {f : D -> D -> Option D} (ho : OpR X (binaryOp op) r) (hf : OpD X.K r f) (ha : PD X a ma) (hb : PD X b mb) : PD X (.BinOp a op b pos) (m2 f ma mb) := (pe_op ho ha hb).imp fun _ _ _ h => op_d hf h
theorem pd_cmp {op : CmpOp} {r : R2} {f : D -> D -> Option D} (ho : OpR X (compareOp op) r) (hf : OpD X.K r f) (ha : PD X a ma) (hb : PD X b mb) (hm : behindInMarks op b = false) : PD X (.Compare a [op] [b] pos) (m2 f ma mb) := (pe_cmpR ho ha hb hm).imp fun _ _ _ h => op_d hf h
def mtest (m : ME) : MB := fun ρ => match m ρ with | some (.bl b) => some b | _ => none
theorem pc_cmp {op : CmpOp} {r : R2} {f : D -> D -> Option D} (ho : OpR X (compareOp op) r) (hf : OpD X.K r f) (ha : PD X a ma) (hb : PD X b mb) (hm : behindInMarks op b = false) : PC' X (.Compare a [op] [b] pos) (mtest (m2 f ma mb)) := (pt_cmpR ho ha hb hm).imp fun σ H Q hpat => by
 obtain ⟨F0, H0, F, ρ, g, rl, e, q⟩ := hpat
 unfold mtest at e
 split at e
 ·rename_i k hk
  cases e
  refine op_d hf ⟨F0, H0, F, ρ, .bl g, rl, hk, fun v F' H' x r => ?_⟩
  cases r
  exact ⟨_, rfl, q F' H' x⟩
 ·cases e
def int2 (g : Int -> Int -> Option D) : D -> D -> Option D
 | .int i, .int j => g i j
 | _, _ => none
theorem int2_inv {g : Int -> Int -> Option D} {d e w : D} (h : int2 g d e = some w) : ∃ i j, d = .int i /\ e = .int j /\ g i j = some w := by
 cases d with
 | int i =>
  cases e with
  | int j => exact ⟨i, j, rfl, rfl, h⟩
  | _ => cases h
 | _ => cases h
theorem opd_rI0 {K : W.Frag} {g : Int -> Int -> V} {g' : Int -> Int -> D} (hg : ∀ F i j, Rep K F (g i j) (g' i j)) : OpD K (rI0 g) (int2 fun i j => some (g' i j)) := by
 intro F H x y d e w Q s r1 r2 h q
 obtain ⟨i, j, rfl, rfl, h'⟩ := int2_inv h
 clear h
 cases h'
 exact ⟨i, j, r1.i', r2.i', q _ F H (.refl s) (hg F i j)⟩
theorem opd_rI {K : W.Frag} {C : Int -> Int -> Prop} {ok : Int -> Int -> Bool} {g : Int -> Int -> V} {g' : Int -> Int -> D} (hC : ∀ i j, ok i j = true -> C i j) (hg : ∀ F i j, Rep K F (g i j) (g' i j)) :
  OpD K (rI C g) (int2 fun i j => if ok i j = true then some (g' i j) else none) := by
 intro F H x y d e w Q s r1 r2 h q
 obtain ⟨i, j, rfl, rfl, h'⟩ := int2_inv h
 clear h
 by_cases hk : ok i j = true
 ·rw [if_pos hk] at h'
  cases h'
  exact ⟨i, j, r1.i', r2.i', hC i j hk, q _ F H (.refl s) (hg F i j)⟩
 ·rw [if_neg hk] at h'
  cases h'
def subD : D -> D -> Option D := int2 fun i j => some (.int (i - j))
def mulOk (i j : Int) : Bool := (decide (-(2 ^ 64) < i) && decide (i < 2 ^ 64)) || (decide (-(2 ^ 64) < j) && decide (j < 2 ^ 64))
def mulD : D -> D -> Option D := int2 fun i j => if mulOk i j = true then some (.int (i * j)) else none
def fdivOk (_ j : Int) : Bool := decide (0 < j) && decide (j < 1073741824)
def fdivD : D -> D -> Option D := int2 fun i j => if fdivOk i j = true then some (.int (i / j)) else none
def modOk (_ j : Int) : Bool := decide (0 < j)
def modD : D -> D -> Option D := int2 fun i j => if modOk i j = true then some (.int (i % j)) else none
def powOk (i j : Int) : Bool := decide (0 <= j) && decide (j <= 1000000) && decide (i.natAbs < 2 ^ 64)
def powD : D -> D -> Option D := int2 fun i j => if powOk i j = true then some (.int (i ^ j.toNat)) else none
def shrOk (_ j : Int) : Bool := decide (0 <= j)
def shrD : D -> D -> Option D := int2 fun i j => if shrOk i j = true then some (.int (i / 2 ^ j.toNat)) else none
def andD : D -> D -> Option D := int2 fun i j => some (.int (Builtin.bitAnd i j))
def ltD : D -> D -> Option D := int2 fun i j => some (.bl (decide (i < j)))
def leD : D -> D -> Option D := int2 fun i j => some (.bl (decide (i <= j)))
def gtD : D -> D -> Option D := int2 fun i j => some (.bl (decide (j < i)))
def geD : D -> D -> Option D := int2 fun i j => some (.bl (decide (j <= i)))
theorem opd_sub {K : W.Frag} : OpD K (rI0 fun i j => .int (i - j)) subD := opd_rI0 fun F i j => .int _
theorem opd_mul {K : W.Frag} : OpD K (rI CMul fun i j => .int (i * j)) mulD := opd_rI (fun i j h => by
 unfold mulOk at h
 simp only [Bool.or_eq_true, Bool.and_eq_true, decide_eq_true_eq] at h
 exact h) fun F i j => .int _
theorem opd_fdiv {K : W.Frag} : OpD K (rI CDiv fun i j => .int (i / j)) fdivD := opd_rI (fun i j h => by
 unfold fdivOk at h
 simp only [Bool.and_eq_true, decide_eq_true_eq] at h
 exact h) fun F i j => .int _
theorem opd_mod {K : W.Frag} : OpD K (rI (fun _ j => 0 < j) fun i j => .int (i % j)) modD := opd_rI (fun i j h => of_decide_eq_true h) fun F i j => .int _
theorem opd_pow {K : W.Frag} : OpD K (rI CPow fun i j => .int (i ^ j.toNat)) powD := opd_rI (fun i j h => by
 unfold powOk at h
 simp only [Bool.and_eq_true, decide_eq_true_eq] at h
 exact ⟨h.1.1, h.1.2, h.2⟩) fun F i j => .int _
theorem opd_shr {K : W.Frag} : OpD K (rI (fun _ j => 0 <= j) fun i j => .int (i / 2 ^ j.toNat)) shrD := opd_rI (fun i j h => of_decide_eq_true h) fun F i j => .int _
theorem opd_and {K : W.Frag} : OpD K (rI0 fun i j => .int (Builtin.bitAnd i j)) andD := opd_rI0 fun F i j => .int _
theorem opd_lt {K : W.Frag} : OpD K (rI0 fun i j => .bl (decide (i < j))) ltD := opd_rI0 fun F i j => .bl _
theorem opd_le {K : W.Frag} : OpD K (rI0 fun i j => .bl (decide (i <= j))) leD := opd_rI0 fun F i j => .bl _
theorem opd_gt {K : W.Frag} : OpD K (rI0 fun i j => .bl (decide (j < i))) gtD := opd_rI0 fun F i j => .bl _
theorem opd_ge {K : W.Frag} : OpD K (rI0 fun i j => .bl (decide (j <= i))) geD := opd_rI0 fun F i j => .bl _
def eqS : D -> D -> Option Bool
 | .non, .non => some true | .non, .int _ => some false | .int _, .non => some false | .non, .bl _ => some false | .bl _, .non => some false | .non, .str _ => some false | .str _, .non => some false
 | .int i, .int j => some (i == j) | .bl i, .bl j => some (i == j) | .str i, .str j => some (i == j)
 | .int _, .str _ => some false | .str _, .int _ => some false | .bl _, .str _ => some false | .str _, .bl _ => some false
 | _, _ => none
def eqSD (d e : D) : Option D := (eqS d e).map .bl
def neSD (d e : D) : Option D := (eqS d e).map fun b => .bl (!b)
def scV : D -> V
 | .bl b => .bl b | .int i => .int i | .str x => .str x | _ => .non
theorem eqS_inv {d e : D} {k : Bool} (h : eqS d e = some k) : scal (scV d) (scV e) = true /\ decide (scV d = scV e) = k := by
 cases d with
 | non => cases e <;> cases h <;> exact ⟨rfl, rfl⟩
 | bl i =>
  cases e <;> cases h
  ·exact ⟨rfl, rfl⟩
  ·exact ⟨rfl, dec_bl⟩
  ·exact ⟨rfl, rfl⟩
 | int i =>
  cases e <;> cases h
  ·exact ⟨rfl, rfl⟩
  ·exact ⟨rfl, dec_int⟩
  ·exact ⟨rfl, rfl⟩
 | str i =>
  cases e <;> cases h
  ·exact ⟨rfl, rfl⟩
  ·exact ⟨rfl, rfl⟩
  ·exact ⟨rfl, rfl⟩
  ·exact ⟨rfl, dec_str⟩
 | _ => cases h
theorem eqS_l {d e : D} {k : Bool} (h : eqS d e = some k) {K : W.Frag} {F : Hp} {x : V} (r : Rep K F x d) : x = scV d := by
 cases d with
 | non => exact r.n'
 | bl i => exact r.b'
 | int i => exact r.i'
 | str i => exact r.s'
 | _ => cases h
theorem eqS_sym (d e : D) (k : Bool) (h : eqS d e = some k) : ∃ k', eqS e d = some k' := by
 cases d with
 | non => cases e <;> cases h <;> exact ⟨_, rfl⟩
 | bl i => cases e <;> cases h <;> exact ⟨_, rfl⟩
 | int i => cases e <;> cases h <;> exact ⟨_, rfl⟩
 | str i => cases e <;> cases h <;> exact ⟨_, rfl⟩
 | _ => cases h
theorem opd_eqS {K : W.Frag} : OpD K rEq eqSD := by
 intro F H x y d e w Q s r1 r2 h q
 unfold eqSD at h
 cases hk : eqS d e with
 | none => rw [hk] at h; cases h
 | some k =>
  rw [hk] at h
  cases h
  obtain ⟨k', hk'⟩ := eqS_sym d e k hk
  obtain ⟨h1, h2⟩ := eqS_inv hk
  rw [eqS_l hk r1, eqS_l hk' r2]
  refine ⟨h1, ?_⟩
  rw [h2]
  exact q _ F H (.refl s) (.bl _)
theorem opd_neS {K : W.Frag} : OpD K rNe neSD := by
 intro F H x y d e w Q s r1 r2 h q
 unfold neSD at h
 cases hk : eqS d e with
 | none => rw [hk] at h; cases h
 | some k =>
  rw [hk] at h
  cases h
  obtain ⟨k', hk'⟩ := eqS_sym d e k hk
  obtain ⟨h1, h2⟩ := eqS_inv hk
  rw [eqS_l hk r1, eqS_l hk' r2]
  refine ⟨h1, ?_⟩
  rw [h2]
  exact q _ F H (.refl s) (.bl _)
def m1 (f : D -> Option D) (x : ME) : ME := fun ρ => (x ρ).bind f
def negD : D -> Option D
 | .int i => some (.int (-i))
 | _ => none
theorem m1_some {f : D -> Option D} {ρ : Ro} {g : D} (h : m1 f ma ρ = some g) : ∃ d, ma ρ = some d /\ f d = some g := by
 unfold m1 at h
 cases h1 : ma ρ with
 | none => rw [h1] at h; cases h
 | some d => rw [h1] at h; exact ⟨d, rfl, h⟩
theorem pd_neg (ha : PD X a ma) : PD X (.UnaryOp .USub a pos) (m1 negD ma) := (pe_un un_neg ha).imp fun σ H Q hpat => by
 obtain ⟨F0, H0, F, ρ, g, rl, e, q⟩ := hpat
 obtain ⟨d, h1, h2⟩ := m1_some e
 refine ⟨F0, H0, F, ρ, d, rl, h1, fun x F1 H1 x1 r1 => ?_⟩
 cases r1 <;> first | (cases h2; done) | skip
 cases h2
 exact ⟨_, rfl, q _ F1 H1 x1 (.int _)⟩
def notD : D -> Option D
 | .bl b => some (.bl (!b))
 | _ => none
theorem pd_not (ha : PD X a ma) : PD X (.UnaryOp .Not a pos) (m1 notD ma) := (pe_not ha).imp fun σ H Q hpat => by
 obtain ⟨F0, H0, F, ρ, g, rl, e, q⟩ := hpat
 obtain ⟨d, h1, h2⟩ := m1_some e
 refine ⟨F0, H0, F, ρ, d, rl, h1, fun x F1 H1 x1 r1 => ?_⟩
 cases r1 <;> first | (cases h2; done) | skip
 cases h2
 exact ⟨_, rfl, q _ F1 H1 x1 (.bl _)⟩
def mand (x y : ME) : ME := fun ρ => match x ρ with | some (.bl true) => y ρ | some (.bl false) => some (.bl false) | _ => none
theorem pd_one {op} (h : PD X a ma) : PD X (.BoolOp op [a] pos) ma := pe_one h
theorem pd_and {rest : List Expr} (ha : PD X a ma) (hb : PD X (.BoolOp .And (b :: rest) pos) mb) : PD X (.BoolOp .And (a :: b :: rest) pos) (mand ma mb) := (pe_and ha hb).imp fun σ H Q hpat => by
 obtain ⟨F0, H0, F, ρ, g, rl, e, q⟩ := hpat
 unfold mand at e
 split at e
 ·rename_i h1
  refine ⟨F0, H0, F, ρ, _, rl, h1, fun x F1 H1 x1 r1 => ?_⟩
  cases r1
  refine ⟨true, rfl, ?_⟩
  refine iteT ?_
  exact ⟨F0, H0, F1, ρ, g, rl.go x1, e, fun y F2 H2 x2 r2 => q y F2 H2 (x1.trans x2) r2⟩
 ·rename_i h1
  cases e
  refine ⟨F0, H0, F, ρ, _, rl, h1, fun x F1 H1 x1 r1 => ?_⟩
  cases r1
  refine ⟨false, rfl, ?_⟩
  refine iteF ?_
  exact q _ F1 H1 x1 (.bl _)
 ·cases e
def truD : D -> Option Bool
 | .non => some false
 | .bl b => some b
 | .int i => some (i != 0)
 | .str y => if y.length <= sizeLine then some ((y.length : Int) != 0) else none
 | .lst ds => some (!ds.isEmpty)
 | .tup ds => some (!ds.isEmpty)
 | .exc _ => none
 | .ptr _ => none
 | .obj _ _ _ => none
def mtru (m : ME) : MB := fun ρ => (m ρ).bind truD
theorem isEmpty_reps {K : W.Frag} {F : Hp} {vs : List V} {ds : List D} (h : Reps K F vs ds) : (!ds.isEmpty) = !vs.isEmpty := by cases h <;> rfl
theorem pc_tru (ha : PD X a ma) (he : ∀ whole, isTrue a X.env whole = (do let v ← whole; standAt a.pos; holding [v] (truthy v)) := by intro _; rfl) : PC' X a (mtru ma) := (pt_truth ha he).imp fun σ H Q hpat => by
 obtain ⟨F0, H0, F, ρ, b, rl, e, q⟩ := hpat
 unfold mtru at e
 cases h1 : ma ρ with
 | none => rw [h1] at e; cases e
 | some d =>
  rw [h1] at e
  refine ⟨F0, H0, F, ρ, d, rl, h1, fun x F1 H1 x1 r1 => ⟨b, ?_, q F1 H1 x1⟩⟩
  cases r1 with
  | non => cases e; rfl
  | bl => cases e; rfl
  | int => cases e; rfl
  | str x =>
   have e : (if x.length <= sizeLine then some ((x.length : Int) != 0) else none) = some b := e
   split at e
   ·rename_i hz
    cases e
    exact ⟨hz, rfl⟩
   ·cases e
  | lst s rs => cases e; exact .inl ⟨_, x1.fh.seq s, isEmpty_reps rs⟩
  | tup s rs => cases e; exact .inr (.inl ⟨_, x1.fh.seqT s, isEmpty_reps rs⟩)
  | exc => cases e
  | ptr => cases e
  | obj => cases e
variable {ca cb : MB}
def cand (x y : MB) : MB := fun ρ => match x ρ with | some true => y ρ | some false => some false | none => none
def cor (x y : MB) : MB := fun ρ => match x ρ with | some true => some true | some false => y ρ | none => none
def cnot (x : MB) : MB := fun ρ => (x ρ).map (!·)
theorem pc_w (h : PCw X a ca) : PC' X a ca := h.pt
theorem pw1_and (h : PC' X a ca) : PCw X (.BoolOp .And [a] pos) ca := pw_and1 h
theorem pw1_or (h : PC' X a ca) : PCw X (.BoolOp .Or [a] pos) ca := pw_or1 h
theorem pcw_and {rest : List Expr} (ha : PC' X a ca) (hb : PCw X (.BoolOp .And (b :: rest) pos) cb) : PCw X (.BoolOp .And (a :: b :: rest) pos) (cand ca cb) := (pw_and ha hb).imp fun σ H Q hpat => by
 obtain ⟨F0, H0, F, ρ, g, rl, e, q⟩ := hpat
 unfold cand at e
 split at e
 ·rename_i h1
  refine ⟨F0, H0, F, ρ, _, rl, h1, fun F1 H1 x1 => ?_⟩
  refine iteT ?_
  exact ⟨F0, H0, F1, ρ, g, rl.go x1, e, fun F2 H2 x2 => q F2 H2 (x1.trans x2)⟩
 ·rename_i h1
  cases e
  refine ⟨F0, H0, F, ρ, _, rl, h1, fun F1 H1 x1 => ?_⟩
  refine iteF ?_
  exact q F1 H1 x1
 ·cases e
theorem pcw_or {rest : List Expr} (ha : PC' X a ca) (hb : PCw X (.BoolOp .Or (b :: rest) pos) cb) : PCw X (.BoolOp .Or (a :: b :: rest) pos) (cor ca cb) := (pw_or ha hb).imp fun σ H Q hpat => by
 obtain ⟨F0, H0, F, ρ, g, rl, e, q⟩ := hpat
 unfold cor at e
 split at e
 ·rename_i h1
  cases e
  refine ⟨F0, H0, F, ρ, _, rl, h1, fun F1 H1 x1 => ?_⟩
  refine iteT ?_
  exact q F1 H1 x1
 ·rename_i h1
  refine ⟨F0, H0, F, ρ, _, rl, h1, fun F1 H1 x1 => ?_⟩
  refine iteF ?_
  exact ⟨F0, H0, F1, ρ, g, rl.go x1, e, fun F2 H2 x2 => q F2 H2 (x1.trans x2)⟩
 ·cases e
theorem pc_not (ha : PC' X a ca) : PC' X (.UnaryOp .Not a pos) (cnot ca) := (pt_not ha).imp fun σ H Q hpat => by
 obtain ⟨F0, H0, F, ρ, g, rl, e, q⟩ := hpat
 unfold cnot at e
 cases h1 : ca ρ with
 | none => rw [h1] at e; cases e
 | some k =>
  rw [h1] at e; cases e
  exact ⟨F0, H0, F, ρ, k, rl, h1, fun F1 H1 x1 => q F1 H1 x1⟩
def anil : ML := fun _ => some []
@[irreducible] def acons (x : ME) (r : ML) : ML := fun ρ => (x ρ).bind fun d => (r ρ).bind fun ds => some (d :: ds)
theorem acons_some {r : ML} {ρ : Ro} {gs : List D} (h : acons ma r ρ = some gs) : ∃ d ds, ma ρ = some d /\ r ρ = some ds /\ gs = d :: ds := by
 unfold acons at h
 cases h1 : ma ρ with
 | none => rw [h1] at h; cases h
 | some d =>
  cases h2 : r ρ with
  | none => rw [h1, h2] at h; cases h
  | some ds => rw [h1, h2] at h; cases h; exact ⟨d, ds, rfl, rfl, rfl⟩
theorem pas_nil : PAs X [] anil := pa_nil.imp fun σ H Q hpat => by
 obtain ⟨F0, H0, F, ρ, g, rl, e, q⟩ := hpat
 cases e; exact q [] F H (.refl rl.fh) .nil
theorem pas_cons {es : List Expr} {m : ML} (ha : PD X a ma) (hr : PAs X es m) (hs : starEach (a :: es) X.env = (false, eval a X.env) :: starEach es X.env := by rfl) : PAs X (a :: es) (acons ma m) := (pa_cons ha hr hs).imp fun σ H Q hpat => by
 obtain ⟨F0, H0, F, ρ, g, rl, e, q⟩ := hpat
 obtain ⟨d, ds, h1, h2, rfl⟩ := acons_some e
 refine ⟨F0, H0, F, ρ, d, rl, h1, fun x F1 H1 x1 r1 => ⟨F0, H0, F1, ρ, ds, rl.go x1, h2, fun xs F2 H2 x2 r2 => ?_⟩⟩
 exact q _ F2 H2 (x1.trans x2) (.cons (r1.mono x2.ff) r2)
@[irreducible] def sized (m : ML) : ML := fun ρ => match m ρ with | some ds => if ds.length <= sizeLine then some ds else none | none => none
theorem sized_some {m : ML} {ρ : Ro} {gs : List D} (h : sized m ρ = some gs) : m ρ = some gs /\ gs.length <= sizeLine := by
 unfold sized at h
 cases h1 : m ρ with
 | none => rw [h1] at h; cases h
 | some ds =>
  rw [h1] at h
  have h : (if ds.length <= sizeLine then some ds else none) = some gs := h
  split at h
  ·rename_i hz; cases h; exact ⟨rfl, hz⟩
  ·cases h
theorem pf_lst {es : List Expr} {m : ML} (h : PAs X es m) : PF X (.List es pos) (sized m) := (pe_lst h).imp fun σ H Q hpat => by
 obtain ⟨F0, H0, F, ρ, g, rl, e, q⟩ := hpat
 obtain ⟨h1, h2⟩ := sized_some e
 refine ⟨F0, H0, F, ρ, g, rl, h1, fun vs F1 H1 x1 r1 => ⟨by rw [r1.length]; exact h2, fun p hp => ?_⟩⟩
 exact q p vs F1 _ (x1.trans (Ext.own x1.fh hp)) (x1.hh.free hp) (x1.fh.free hp) upd_same r1
def mtup (m : ML) : ME := fun ρ => (sized m ρ).map .tup
theorem pd_tup {es : List Expr} {m : ML} {k : Nat} (h : PAs X es m) : PD X (.Tuple es k pos) (mtup m) := (pe_tup h).imp fun σ H Q hpat => by
 obtain ⟨F0, H0, F, ρ, g, rl, e, q⟩ := hpat
 unfold mtup at e
 cases h1 : sized m ρ with
 | none => rw [h1] at e; cases e
 | some ds =>
  rw [h1] at e; cases e
  obtain ⟨h1, h2⟩ := sized_some h1
  refine ⟨F0, H0, F, ρ, ds, rl, h1, fun vs F1 H1 x1 r1 => ⟨by rw [r1.length]; exact h2, fun p hp => ?_⟩⟩
  exact q _ _ _ (x1.trans (Ext.laid x1.fh hp)) (.tup (SqT.of upd_same) (r1.mono ((Same.refl F1).put (x1.fh.free hp))))
def mlen (m : ML) : ME := fun ρ => (m ρ).map fun ds => .int ds.length
@[irreducible] def mix (m : ML) (i : ME) : ME := fun ρ => (m ρ).bind fun ds => (i ρ).bind fun | .int k => atI ds k | _ => none
theorem atI_reps {K : W.Frag} {F : Hp} {vs : List V} {ds : List D} {k : Int} {d : D} (r : Reps K F vs ds) (h : atI ds k = some d) : ∃ v, atI vs k = some v /\ Rep K F v d := by
 unfold atI at h ⊢
 rw [r.length]
 cases q : ixN ds.length k with
 | none => rw [q] at h; cases h
 | some j =>
  rw [q] at h
  exact r.get h
theorem pd_ix {ml : ML} (ha : PB X a ml) (hb : PD X b mb) (hs : PlainIx b := by exact fun _ _ => rfl) : PD X (.Subscript a b pos) (mix ml mb) := (pe_ix ix_list ha hb hs).imp fun σ H Q hpat => by
 obtain ⟨F0, H0, F, ρ, g, rl, e, q⟩ := hpat
 unfold mix at e
 cases h1 : ml ρ with
 | none => rw [h1] at e; cases e
 | some ds =>
  cases h2 : mb ρ with
  | none => rw [h1, h2] at e; cases e
  | some i =>
   rw [h1, h2] at e
   refine ⟨F0, H0, F, ρ, ds, rl, h1, fun p xs F1 H1 x1 s1 r1 => ⟨F0, H0, F1, ρ, i, rl.go x1, h2, fun y F2 H2 x2 r2 => ?_⟩⟩
   cases r2 <;> first | (cases e; done) | skip
   rename_i k
   obtain ⟨v, h3, h4⟩ := atI_reps (r1.mono x2.ff) (show atI ds k = some g from e)
   exact ⟨p, xs, k, v, rfl, rfl, x2.hh.seq s1, h3, q v F2 H2 (x1.trans x2) h4⟩
theorem cut_reps {K : W.Frag} {F : Hp} {vs : List V} {ds : List D} (r : Reps K F vs ds) (lo hi : Option Int) : Reps K F (cutV vs lo hi) ((ds.drop (HT.sIx ds.length 0 lo)).take (HT.sIx ds.length ds.length hi - HT.sIx ds.length 0 lo)) := by
 unfold cutV
 rw [r.length]
 exact (r.drop _).take _
def cutL (ds : List D) (lo hi : Option Int) : List D := (ds.drop (HT.sIx ds.length 0 lo)).take (HT.sIx ds.length ds.length hi - HT.sIx ds.length 0 lo)
abbrev MO := Ro -> Option (Option Int)
def onone : MO := fun _ => some none
def osome (m : ME) : MO := fun ρ => (m ρ).bind fun | .int i => some (some i) | _ => none
def TOs (K : W.Frag) (m : MO) : TO := fun σ H Q => ∃ F0 H0 F ρ i, Rl K F0 H0 F H σ ρ /\ m ρ = some i /\ ∀ F' H', Ext F H F' H' -> Q i H'
def POs (X : Cx) (e : Option Expr) (m : MO) : Prop := PO X e (TOs X.K m)
theorem PO.imp {e : Option Expr} {t t' : TO} (h : PO X e t) (i : ∀ σ H Q, t' σ H Q -> t σ H Q) : PO X e t' := fun pins s σ H Q I q => h pins s σ H Q I (i σ H Q q)
theorem pos_none : POs X none onone := PO.imp po_none fun σ H Q hpat => by obtain ⟨F0, H0, F, ρ, i, rl, e, q⟩ := hpat; cases e; exact q F H (.refl rl.fh)
theorem pos_some (h : PD X a ma) : POs X (some a) (osome ma) := PO.imp (po_some h) fun σ H Q hpat => by
 obtain ⟨F0, H0, F, ρ, i, rl, e, q⟩ := hpat
 unfold osome at e
 cases h1 : ma ρ with
 | none => rw [h1] at e; cases e
 | some d =>
  rw [h1] at e
  refine ⟨F0, H0, F, ρ, d, rl, h1, fun v F1 H1 x1 r1 => ?_⟩
  cases r1 <;> first | (cases e; done) | skip
  cases e
  exact ⟨_, rfl, q F1 H1 x1⟩
@[irreducible] def mcut (m : ML) (lo hi : MO) : ML := fun ρ => (m ρ).bind fun ds => (lo ρ).bind fun l => (hi ρ).bind fun h => some (cutL ds l h)
theorem pf_cut {ml : ML} {lo hi : Option Expr} {l h : MO} (ha : PB X a ml) (hl : POs X lo l) (hh : POs X hi h) (hE : PE X e (tSl (rSlL X.K) (TB X.K ml) (TOs X.K l) (TOs X.K h))) : PF X e (mcut ml l h) := hE.imp fun σ H Q hpat => by
 obtain ⟨F0, H0, F, ρ, g, rl, e, q⟩ := hpat
 unfold mcut at e
 cases h1 : ml ρ with
 | none => rw [h1] at e; cases e
 | some ds =>
  cases h2 : l ρ with
  | none => rw [h1, h2] at e; cases e
  | some i =>
   cases h3 : h ρ with
   | none => rw [h1, h2, h3] at e; cases e
   | some j =>
    rw [h1, h2, h3] at e; cases e
    refine ⟨F0, H0, F, ρ, ds, rl, h1, fun p xs F1 H1 x1 s1 r1 => ⟨F0, H0, F1, ρ, i, rl.go x1, h2, fun F2 H2 x2 => ⟨F0, H0, F2, ρ, j, (rl.go x1).go x2, h3, fun F3 H3 x3 => ?_⟩⟩⟩
    refine ⟨p, xs, rfl, x3.hh.seq (x2.hh.seq s1), fun w hw => ?_⟩
    have xx := (x1.trans x2).trans x3
    exact q w _ F3 _ (xx.trans (Ext.own x3.fh hw)) (xx.hh.free hw) (x3.fh.free hw) upd_same (cut_reps (r1.mono (x2.ff.trans x3.ff)) i j)
end
end
section
theorem list_add_any (l : Addr) (items : Array Value) (n : Nat) (b : Addr) (items2 : Array Value) (n2 : Nat) (dd dd2 : Option Addr) (sl sl2 : Array (Option Value)) (hc0 : items.size + items2.size <= sizeLine) :
  Meets (Builtin.«list.__add__» ⟨[.ref l, .ref b], []⟩) (fun _ R s => s.heap.get? l = some { cls := .type "list", dict := dd, data := .seq items n, slots := sl } /\ s.heap.get? b = some { cls := .type "list", dict := dd2, data := .seq items2 n2, slots := sl2 } /\ R (.ok (.ret (Value.ref s.heap.objs.size))) { s with heap := s.heap.push { cls := Value.type "list", data := Data.seq (items ++ items2) }, toks := s.toks }) :=
 .of_wp fun prog w A R s h => by obtain ⟨hp, g, d, tk, os⟩ := s; obtain ⟨hl, hb, h⟩ := h; have f1 := AutoSeq1.idx_int; have f2 := AutoSeq1.sub_tuple_tuple; have f3 := AutoSeq1.sub_list_list; have f4 := AutoSeq1.sub_tuple_list; have f5 := AutoSeq1.sub_list_tuple; wp_walk using AutoSeq1.wpAny_loadPart' hl, AutoSeq1.wpAny_loadPart' hb; exact ⟨_, rfl, h⟩
section
variable {X : Cx} {a b c e : Expr} {ma mb : ME} {pos : Pos}
def rCatS (K : W.Frag) : R2 := fun x y H Q => ∃ l b xs zs, x = .ref l /\ y = .ref b /\ SqL K H l xs /\ SqL K H b zs /\ xs.length + zs.length <= sizeLine /\ ∀ p, H p = none -> Q (.ref p) (upd H p (.lst (xs ++ zs)))
theorem op_catS : OpR X (binaryOp .Add) (rCatS X.K) := by
 intro pins s σ H x y v u Q I rx ry h
 obtain ⟨l, b, xs, zs, rfl, rfl, hH, hB, hz, q⟩ := h
 cases rx
 cases ry
 obtain ⟨its, r, ⟨⟨cl, dd, dt, sl⟩, n, e, hc, hd, hs⟩, z⟩ := I.list hH
 obtain ⟨its2, r2, ⟨⟨cl2, dd2, dt2, sl2⟩, n2, e2, hc2, hd2, hs2⟩, z2⟩ := I.list hB
 simp only at hc hd hs hc2 hd2 hs2
 subst hc hd hs hc2 hd2 hs2
 have l1 := r.length
 have l2 := r2.length
 refine concat_meets (T := "list") ⟨_, e, rfl⟩ ⟨_, e2, rfl⟩ PySem.noFill_list_add PySem.seq_list_add F.slot_list_add F.entry_list_add (F.args_list_add_2 _ _) (list_add_any l its.toArray n b its2.toArray n2 none none sl sl2 (by rw [size_toArray, size_toArray]; omega)) ⟨e, e2, ?_⟩
 have ea : its.toArray ++ its2.toArray = (its ++ its2).toArray := by simp
 rw [ea]
 exact ⟨.ref _, _, I.lnew (t' := s.toks) (r.append r2) (by rw [length_append]; omega), rfl, q _ I.fresh⟩
@[irreducible] def mcat (x y : ML) : ML := fun ρ => (x ρ).bind fun ds => (y ρ).bind fun es => if ds.length + es.length <= sizeLine then some (ds ++ es) else none
theorem mcat_some {x y : ML} {ρ : Ro} {gs : List D} (h : mcat x y ρ = some gs) : ∃ ds es, x ρ = some ds /\ y ρ = some es /\ ds.length + es.length <= sizeLine /\ gs = ds ++ es := by
 unfold mcat at h
 cases h1 : x ρ with
 | none => rw [h1] at h; cases h
 | some ds =>
  cases h2 : y ρ with
  | none => rw [h1, h2] at h; cases h
  | some es =>
   rw [h1, h2] at h
   have h : (if ds.length + es.length <= sizeLine then some (ds ++ es) else none) = some gs := h
   split at h
   ·rename_i hz; cases h; exact ⟨ds, es, rfl, rfl, hz, rfl⟩
   ·cases h
theorem pf_cat {x y : ML} (ha : PB X a x) (hb : PB X b y) : PF X (.BinOp a .Add b pos) (mcat x y) := (pe_op op_catS ha hb).imp fun σ H Q hpat => by
 obtain ⟨F0, H0, F, ρ, g, rl, e, q⟩ := hpat
 obtain ⟨ds, es, h1, h2, hz, rfl⟩ := mcat_some e
 refine ⟨F0, H0, F, ρ, ds, rl, h1, fun p xs F1 H1 x1 s1 r1 => ⟨F0, H0, F1, ρ, es, rl.go x1, h2, fun p2 ys F2 H2 x2 s2 r2 => ?_⟩⟩
 refine ⟨p, p2, xs, ys, rfl, rfl, x2.hh.seq s1, s2, by rw [r1.length, r2.length]; exact hz, fun w hw => ?_⟩
 have xx := x1.trans x2
 exact q w _ F2 _ (xx.trans (Ext.own x2.fh hw)) (xx.hh.free hw) (x2.fh.free hw) upd_same ((r1.mono x2.ff).append r2)
def addD : D -> D -> Option D
 | .int i, .int j => some (.int (i + j))
 | .lst ds, .lst es => if ds.length + es.length <= sizeLine then some (.lst (ds ++ es)) else none
 | _, _ => none
theorem opd_add {K : W.Frag} : OpD K (fun x y H Q => (rI0 fun i j => V.int (i + j)) x y H Q \/ rCatS K x y H Q) addD := by
 intro F H x y d e w Q s r1 r2 h q
 cases d with
 | int i =>
  cases e with
  | int j =>
   cases h
   exact .inl ⟨_, _, r1.i', r2.i', q _ F H (.refl s) (.int _)⟩
  | _ => cases h
 | lst ds1 =>
  cases e with
  | lst ds2 =>
   obtain ⟨p1, xs1, e1, s1, t1⟩ := r1.l'
   obtain ⟨p2, xs2, e2, s2, t2⟩ := r2.l'
   have h : (if ds1.length + ds2.length <= sizeLine then some (D.lst (ds1 ++ ds2)) else none) = some w := h
   by_cases hz : ds1.length + ds2.length <= sizeLine
   ·rw [if_pos hz] at h
    cases h
    refine .inr ⟨_, _, _, _, e1, e2, s.seq s1, s.seq s2, by rw [t1.length, t2.length]; exact hz, fun p hp => ?_⟩
    exact q _ _ _ (Ext.laid s hp) (.lst (SqL.of upd_same) ((t1.append t2).mono ((Same.refl F).put (s.free hp))))
   ·rw [if_neg hz] at h; cases h
  | _ => cases h
 | _ => cases h
theorem pd_add (ha : PD X a ma) (hb : PD X b mb) : PD X (.BinOp a .Add b pos) (m2 addD ma mb) := pd_op (OpR.or op_add op_catS) opd_add ha hb
theorem pd_sub (ha : PD X a ma) (hb : PD X b mb) : PD X (.BinOp a .Sub b pos) (m2 subD ma mb) := pd_op op_sub opd_sub ha hb
theorem pd_mul (ha : PD X a ma) (hb : PD X b mb) : PD X (.BinOp a .Mult b pos) (m2 mulD ma mb) := pd_op op_mul opd_mul ha hb
theorem pd_fdiv (ha : PD X a ma) (hb : PD X b mb) : PD X (.BinOp a .FloorDiv b pos) (m2 fdivD ma mb) := pd_op op_fdiv opd_fdiv ha hb
theorem pd_mod (ha : PD X a ma) (hb : PD X b mb) : PD X (.BinOp a .Mod b pos) (m2 modD ma mb) := pd_op op_mod opd_mod ha hb
theorem pd_pow (ha : PD X a ma) (hb : PD X b mb) : PD X (.BinOp a .Pow b pos) (m2 powD ma mb) := pd_op op_pow opd_pow ha hb
theorem pd_shr (ha : PD X a ma) (hb : PD X b mb) : PD X (.BinOp a .RShift b pos) (m2 shrD ma mb) := pd_op op_shr opd_shr ha hb
theorem pd_band (ha : PD X a ma) (hb : PD X b mb) : PD X (.BinOp a .BitAnd b pos) (m2 andD ma mb) := pd_op op_and opd_and ha hb
@[irreducible] def call1 (f : List D -> Option D) (m : ML) : ME := fun ρ => (m ρ).bind f
def CallD (K : W.Frag) (r : List V -> Hp -> VK -> Prop) (f : List D -> Option D) : Prop := ∀ (F H : Hp) (vs : List V) (ds : List D) (g : D) (Q : VK), Same F H -> Reps K F vs ds -> f ds = some g -> (∀ v F' H', Ext F H F' H' -> Rep K F' v g -> Q v H') -> r vs H Q
theorem call_d {r : List V -> Hp -> VK -> Prop} {f : List D -> Option D} {m : ML} (hf : CallD X.K r f) {σ : St} {H : Hp} {Q : VK} (h : TD X.K (call1 f m) σ H Q) : tCB r (TAs X.K m) σ H Q := by
 obtain ⟨F0, H0, F, ρ, g, rl, e, q⟩ := h
 unfold call1 at e
 cases h1 : m ρ with
 | none => rw [h1] at e; cases e
 | some ds =>
  rw [h1] at e
  exact ⟨F0, H0, F, ρ, ds, rl, h1, fun vs F1 H1 x1 r1 => hf F1 H1 vs ds g Q x1.fh r1 e fun v F' H' x2 => q v F' H' (x1.trans x2)⟩
theorem pd_lenB {e : Expr} {p : Pos} {m : ML} (hg : Gl X "len") (hm : X.mg "len" = none) (ha : PB X e m) (hs : starEach (e :: []) X.env = (false, eval e X.env) :: starEach [] X.env := by rfl) (he : starEach [e] X.env = (false, eval e X.env) :: starEach [] X.env := by rfl) (hpl : (backTo pos (starEach [] X.env)).any (·.1) = false := by rfl) : PD X (.Call (.Name "len" p) [e] [] pos) (mlen m) :=
 (pe_callB call_len_seq hg hm PySem.boot_len (pa_cons ha pa_nil hs) (by decide) (by decide) he hpl).imp fun σ H Q hpat => by
  obtain ⟨F0, H0, F, ρ, g, rl, e, q⟩ := hpat
  unfold mlen at e
  cases h1 : m ρ with
  | none => rw [h1] at e; cases e
  | some ds =>
   rw [h1] at e; cases e
   refine ⟨F0, H0, F, ρ, ds, rl, h1, fun p xs F1 H1 x1 s1 r1 => ⟨p, xs, rfl, .inl s1, ?_⟩⟩
   rw [r1.length]
   exact q _ F1 H1 x1 (.int _)
def absF : List D -> Option D
 | [.int i] => some (.int (if i < 0 then -i else i))
 | _ => none
theorem calld_abs {K : W.Frag} : CallD K (fun xs H Q => ∃ i, xs = [.int i] /\ Q (.int (if i < 0 then -i else i)) H) absF := by
 intro F H vs ds g Q s r h q
 cases r with
 | nil => cases h
 | cons r rr =>
  cases rr with
  | cons _ _ => revert h; unfold absF; intro h; split at h <;> simp_all
  | nil =>
   cases r with
   | int i => cases h; exact ⟨_, rfl, q _ F H (.refl s) (.int _)⟩
   | _ => cases h
theorem pd_abs {e : Expr} {p : Pos} {m : ML} (hg : Gl X "abs") (hm : X.mg "abs" = none) (ha : PAs X [e] m) (he : starEach [e] X.env = (false, eval e X.env) :: starEach [] X.env := by rfl) (hpl : (backTo pos (starEach [] X.env)).any (·.1) = false := by rfl) : PD X (.Call (.Name "abs" p) [e] [] pos) (call1 absF m) :=
 (pe_callB call_abs hg hm PyProof.Rows.boot_abs ha (by decide) (by decide) he hpl).imp fun _ _ _ h => call_d calld_abs h
def two2 (k : Int -> Int -> Int) : List D -> Option D
 | [.int i, .int j] => some (.int (k i j))
 | _ => none
theorem two2_inv {k : Int -> Int -> Int} {ds : List D} {g : D} (h : two2 k ds = some g) : ∃ i j, ds = [.int i, .int j] /\ g = .int (k i j) := by
 cases ds with
 | nil => cases h
 | cons d ds =>
  cases ds with
  | nil => cases d <;> cases h
  | cons e ds =>
   cases ds with
   | cons f ds => cases d <;> first | (cases h; done) | (cases e <;> cases h)
   | nil =>
    cases d with
    | int i =>
     cases e with
     | int j => cases h; exact ⟨i, j, rfl, rfl⟩
     | _ => cases h
    | _ => cases h
theorem calld_two {K : W.Frag} {k : Int -> Int -> Int} : CallD K (fun xs H Q => ∃ i j, xs = [.int i, .int j] /\ Q (.int (k i j)) H) (two2 k) := by
 intro F H vs ds g Q s r h q
 obtain ⟨i, j, rfl, rfl⟩ := two2_inv h
 cases r with
 | cons r rr =>
  cases rr with
  | cons r2 rr =>
   cases rr
   rw [r.i', r2.i']
   exact ⟨_, _, rfl, q _ F H (.refl s) (.int _)⟩
def max2F : List D -> Option D := two2 fun i j => if j > i then j else i
def min2F : List D -> Option D := two2 fun i j => if j < i then j else i
theorem pd_max2 {x y : Expr} {p : Pos} {m : ML} (hc : X.calm = true) (hg : Gl X "max") (hm : X.mg "max" = none) (ha : PAs X [x, y] m) (he : starEach [x, y] X.env = (false, eval x X.env) :: starEach [y] X.env := by rfl) (hpl : (backTo pos (starEach [y] X.env)).any (·.1) = false := by rfl) : PD X (.Call (.Name "max" p) [x, y] [] pos) (call1 max2F m) :=
 (pe_callB (call_max2 hc) hg hm PyProof.Rows.boot_max ha (by decide) (by decide) he hpl).imp fun _ _ _ h => call_d (calld_two (k := fun i j => if j > i then j else i)) h
theorem pd_min2 {x y : Expr} {p : Pos} {m : ML} (hc : X.calm = true) (hg : Gl X "min") (hm : X.mg "min" = none) (ha : PAs X [x, y] m) (he : starEach [x, y] X.env = (false, eval x X.env) :: starEach [y] X.env := by rfl) (hpl : (backTo pos (starEach [y] X.env)).any (·.1) = false := by rfl) : PD X (.Call (.Name "min" p) [x, y] [] pos) (call1 min2F m) :=
 (pe_callB (call_min2 hc) hg hm PyProof.Rows.boot_min ha (by decide) (by decide) he hpl).imp fun _ _ _ h => call_d (calld_two (k := fun i j => if j < i then j else i)) h
def intF : List D -> Option D
 | [.int i] => some (.int i)
 | [.bl k] => some (.int (if k then 1 else 0))
 | _ => none
theorem calld_int {K : W.Frag} : CallD K (fun xs H Q => (∃ i, xs = [.int i] /\ Q (.int i) H) \/ ∃ k, xs = [.bl k] /\ Q (.int (if k then 1 else 0)) H) intF := by
 intro F H vs ds g Q s r h q
 cases r with
 | nil => cases h
 | cons r rr =>
  cases rr with
  | cons _ _ => revert h; unfold intF; intro h; split at h <;> simp_all
  | nil =>
   cases r with
   | int i => cases h; exact .inl ⟨_, rfl, q _ F H (.refl s) (.int _)⟩
   | bl i => cases h; exact .inr ⟨_, rfl, q _ F H (.refl s) (.int _)⟩
   | _ => cases h
theorem pd_intc {e : Expr} {p : Pos} {m : ML} (hg : Gl X "int") (hm : X.mg "int" = none) (ha : PAs X [e] m) (hv : bootBuiltins "int" = some (.type "int")) (he : starEach [e] X.env = (false, eval e X.env) :: starEach [] X.env := by rfl) (hpl : (backTo pos (starEach [] X.env)).any (·.1) = false := by rfl) : PD X (.Call (.Name "int" p) [e] [] pos) (call1 intF m) :=
 (pe_callTy call_int1 hg hm hv ha (by decide) (by decide) he hpl).imp fun _ _ _ h => call_d calld_int h
theorem pf_list {e : Expr} {p : Pos} {m : ML} (hg : Gl X "list") (hm : X.mg "list" = none) (ha : PB X e m) (hv : bootBuiltins "list" = some (.type "list")) (hs : starEach (e :: []) X.env = (false, eval e X.env) :: starEach [] X.env := by rfl) (hpl : (backTo pos (starEach [] X.env)).any (·.1) = false := by rfl) : PF X (.Call (.Name "list" p) [e] [] pos) m :=
 (pe_callTy call_list_of hg hm hv (pa_cons ha pa_nil hs) (by decide) (by decide) hs hpl).imp fun σ H Q hpat => by
  obtain ⟨F0, H0, F, ρ, ds, rl, e, q⟩ := hpat
  refine ⟨F0, H0, F, ρ, ds, rl, e, fun p xs F1 H1 x1 s1 r1 => ⟨p, xs, rfl, .inl s1, fun w hw => ?_⟩⟩
  exact q w _ F1 _ (x1.trans (Ext.own x1.fh hw)) (x1.hh.free hw) (x1.fh.free hw) upd_same r1
end
end
section
inductive Out where
 | nx (ρ : Ro) | bk (ρ : Ro) | ct (ρ : Ro) | rt (d : D) | rf (ds : List D) | rp (d : D) (ds : List D) | rg (d : D) (p : Addr) (r : List D) | rgf (ds : List D) (p : Addr) (r : List D)
abbrev MS := Ro -> Option Out
def okO (K : W.Frag) (F0 H0 Fb : Hp) (Dn : Ends) : Out -> Prop
 | .nx ρ => ∀ F H σ, Rl K F0 H0 F H σ ρ -> Same Fb F -> Dn.nx σ H
 | .bk ρ => ∀ F H σ, Rl K F0 H0 F H σ ρ -> Same Fb F -> Dn.bk σ H
 | .ct ρ => ∀ F H σ, Rl K F0 H0 F H σ ρ -> Same Fb F -> Dn.ct σ H
 | .rt d => ∀ v F H, Ext F0 H0 F H -> Rep K F v d -> Dn.rt v H
 | .rf ds => ∀ p xs F H, Ext F0 H0 F H -> H0 p = none -> F p = none -> H p = some (.lst xs) -> Reps K F xs ds -> Dn.rt (.ref p) H
 | .rp d ds => ∀ t v p xs F H, Ext F0 H0 F H -> H0 t = none -> H0 p = none -> t ≠ p -> F t = none -> F p = none -> H t = some (.tup [v, .ref p]) -> H p = some (.lst xs) -> Rep K F v d -> Reps K F xs ds -> Dn.rt (.ref t) H
 | .rg d p r => ∀ v F H xs, Ext F0 H0 F H -> Rep K F v d -> F p = none -> H p = some (.lst xs) -> Reps K F xs r -> Dn.rt v H
 | .rgf ds p r => ∀ q ys F H xs, Ext F0 H0 F H -> H0 q = none -> F q = none -> q ≠ p -> H q = some (.lst ys) -> Reps K F ys ds -> F p = none -> H p = some (.lst xs) -> Reps K F xs r -> Dn.rt (.ref q) H
def TSd (K : W.Frag) (m : MS) : TS := fun Dn σ H => ∃ F0 H0 F ρ o, Rl K F0 H0 F H σ ρ /\ m ρ = some o /\ okO K F0 H0 F Dn o
theorem okO.mono {K : W.Frag} {F0 H0 Fb Fb' : Hp} {Dn : Ends} (s : Same Fb Fb') : ∀ {o : Out}, okO K F0 H0 Fb Dn o -> okO K F0 H0 Fb' Dn o
 | .nx _, h => fun F H σ rl q => h F H σ rl (s.trans q)
 | .bk _, h => fun F H σ rl q => h F H σ rl (s.trans q)
 | .ct _, h => fun F H σ rl q => h F H σ rl (s.trans q)
 | .rt _, h => h
 | .rf _, h => h
 | .rp _ _, h => h
 | .rg _ _ _, h => h
 | .rgf _ _ _, h => h
def PSd (X : Cx) (st : Stmt) (m : MS) : Prop := PS X st (TSd X.K m)
def PSsd (X : Cx) (st : List Stmt) (m : MS) : Prop := PSs X st (TSd X.K m)
section
variable {X : Cx} {a b c e : Expr} {ma mb : ME} {pos : Pos} {st : Stmt} {rest : List Stmt} {m1 m2' : MS}
theorem PS.imp {t t' : TS} (h : PS X st t) (i : ∀ D σ H, t' D σ H -> t D σ H) : PS X st t' := fun pins s σ H D I q => h pins s σ H D I (i D σ H q)
theorem PSs.imp {sts : List Stmt} {t t' : TS} (h : PSs X sts t) (i : ∀ D σ H, t' D σ H -> t D σ H) : PSs X sts t' := fun pins s σ H D I q => h pins s σ H D I (i D σ H q)
def mnext : MS := fun ρ => some (.nx ρ)
def mseq (x y : MS) : MS := fun ρ => match x ρ with | some (.nx ρ') => y ρ' | o => o
theorem pssd_nil : PSsd X [] mnext := pss_nil.imp fun D σ H hpat => by obtain ⟨F0, H0, F, ρ, o, rl, e, ok⟩ := hpat; cases e; exact ok F H σ rl (Same.refl _)
theorem pssd_cons (h1 : PSd X st m1) (h2 : PSsd X rest m2') : PSsd X (st :: rest) (mseq m1 m2') := (pss_cons h1 h2).imp fun D σ H hpat => by
 obtain ⟨F0, H0, F, ρ, o, rl, e, ok⟩ := hpat
 unfold mseq at e
 cases h : m1 ρ with
 | none => rw [h] at e; cases e
 | some o1 =>
  rw [h] at e
  cases o1 with
  | nx ρ1 => exact ⟨F0, H0, F, ρ, _, rl, h, fun F' H' σ' rl' sf => ⟨F0, H0, F', ρ1, o, rl', e, ok.mono sf⟩⟩
  | bk ρ1 => cases e; exact ⟨F0, H0, F, ρ, _, rl, h, ok⟩
  | ct ρ1 => cases e; exact ⟨F0, H0, F, ρ, _, rl, h, ok⟩
  | rt d => cases e; exact ⟨F0, H0, F, ρ, _, rl, h, ok⟩
  | rf d => cases e; exact ⟨F0, H0, F, ρ, _, rl, h, ok⟩
  | rp d ds => cases e; exact ⟨F0, H0, F, ρ, _, rl, h, ok⟩
  | rg d p r => cases e; exact ⟨F0, H0, F, ρ, _, rl, h, ok⟩
  | rgf d p r => cases e; exact ⟨F0, H0, F, ρ, _, rl, h, ok⟩
theorem pssd_one (h1 : PSd X st m1) : PSsd X [st] m1 := pss_one h1
def mif (c : MB) (x y : MS) : MS := fun ρ => match c ρ with | some true => x ρ | some false => y ρ | none => none
theorem psd_if {ca : MB} {x y : List Stmt} {mx my : MS} (hc : PC' X c ca) (hx : PSsd X x mx) (hy : PSsd X y my) : PSd X (.If c x y pos) (mif ca mx my) := (ps_if hc hx hy).imp fun D σ H hpat => by
 obtain ⟨F0, H0, F, ρ, o, rl, e, ok⟩ := hpat
 unfold mif at e
 split at e
 ·rename_i h1
  refine ⟨F0, H0, F, ρ, _, rl, h1, fun F1 H1 x1 => iteT ⟨F0, H0, F1, ρ, o, rl.go x1, e, ok.mono x1.ff⟩⟩
 ·rename_i h1
  refine ⟨F0, H0, F, ρ, _, rl, h1, fun F1 H1 x1 => iteF ⟨F0, H0, F1, ρ, o, rl.go x1, e, ok.mono x1.ff⟩⟩
 ·cases e
def mnever : MS := fun _ => none
theorem psd_never : PSd X st mnever := ps_never.imp fun D σ H hpat => by obtain ⟨F0, H0, F, ρ, o, rl, e, ok⟩ := hpat; cases e
def mset (i : Nat) (x : ME) : MS := fun ρ => (x ρ).map fun d => .nx (ρ.set i (some (.sh d)))
def msetF (i : Nat) (x : ML) : MS := fun ρ => (x ρ).map fun ds => .nx (ρ.set i (some (.own ds)))
theorem asg_d {t : TE} {i : Nat} (h : PS X st (tAsg t (gName i))) (ht : ∀ σ H Q, TD X.K ma σ H Q -> t σ H Q) : PSd X st (mset i ma) := h.imp fun D σ H hpat => by
 obtain ⟨F0, H0, F, ρ, o, rl, e, ok⟩ := hpat
 unfold mset at e
 cases h1 : ma ρ with
 | none => rw [h1] at e; cases e
 | some d =>
  rw [h1] at e; cases e
  exact ht _ _ _ ⟨F0, H0, F, ρ, d, rl, h1, fun v F1 H1 x1 r1 => ok F1 H1 _ ((rl.go x1).set r1) x1.ff⟩
theorem asg_f {t : TE} {i : Nat} {mf : ML} (h : PS X st (tAsg t (gName i))) (ht : ∀ σ H Q, TF X.K mf σ H Q -> t σ H Q) : PSd X st (msetF i mf) := h.imp fun D σ H hpat => by
 obtain ⟨F0, H0, F, ρ, o, rl, e, ok⟩ := hpat
 unfold msetF at e
 cases h1 : mf ρ with
 | none => rw [h1] at e; cases e
 | some ds =>
  rw [h1] at e; cases e
  refine ht _ _ _ ⟨F0, H0, F, ρ, ds, rl, h1, fun p xs F1 H1 x1 hp hF hH r1 => ok F1 H1 _ ?_ x1.ff⟩
  refine (rl.go x1).setOwn hF hH r1 (rl.ext.hh.free hp) (fun j es hj e1 e2 => ?_) fun j q es e1 z => ?_
  ·obtain ⟨q, ys, a1, a2, a3, _⟩ := rl.own j es e1
   rw [a1] at e2; cases e2
   rw [hp] at a3; cases a3
  ·obtain ⟨_, _, _, ys, a3, _⟩ := rl.ob j q es e1
   rw [z, hp] at a3; cases a3
theorem psd_set {i : Nat} {x : Str} {pos' : Pos} (hN : X.N.Nodup) (hi : X.N[i]? = some x) (hx : Loc X.env.scope x) (he : PD X e ma) (hs : swapsWith e (some (.Name x pos')) pos.line X.env = pure false := by rfl) (hf : X.fn x = true \/ X.env.scope.names.lookup x = some .local := by first | exact .inl rfl | exact .inr rfl | assumption) :
  PSd X (.Assign [.Name x pos'] e pos) (mset i ma) := asg_d (ps_set hN hi hx he hs hf) fun _ _ _ h => h
theorem psd_setF {i : Nat} {x : Str} {pos' : Pos} {mf : ML} (hN : X.N.Nodup) (hi : X.N[i]? = some x) (hx : Loc X.env.scope x) (he : PF X e mf) (hs : swapsWith e (some (.Name x pos')) pos.line X.env = pure false := by rfl) (hf : X.fn x = true \/ X.env.scope.names.lookup x = some .local := by first | exact .inl rfl | exact .inr rfl | assumption) :
  PSd X (.Assign [.Name x pos'] e pos) (msetF i mf) := asg_f (ps_set hN hi hx he hs hf) fun _ _ _ h => h
def maug (i : Nat) (x : ME) : MS := fun ρ => match ρ[i]? with | some (some (.sh (.int k))) => (x ρ).bind (fun d => match d with | .int j => some (.nx (ρ.set i (some (.sh (.int (k + j)))))) | _ => none) | _ => none
theorem psd_aug {i : Nat} {x : Str} {pos' : Pos} (hN : X.N.Nodup) (hi : X.N[i]? = some x) (hx : Loc X.env.scope x) (he : PD X e ma) (hf : X.fn x = true \/ X.env.scope.names.lookup x = some .local := by first | exact .inl rfl | exact .inr rfl | assumption) :
  PSd X (.AugAssign (.Name x pos') .Add e pos) (maug i ma) := (ps_aug hN hi hx he ip_add hf).imp fun D σ H hpat => by
 obtain ⟨F0, H0, F, ρ, o, rl, e, ok⟩ := hpat
 unfold maug at e
 split at e
 ·rename_i k h1
  obtain ⟨v, e1, e2⟩ := rl.sh i _ h1
  cases e2
  cases h2 : ma ρ with
  | none => rw [h2] at e; cases e
  | some d =>
   rw [h2] at e
   refine ⟨_, e1, F0, H0, F, ρ, d, rl, h2, fun y F1 H1 x1 r1 => ?_⟩
   cases r1 <;> first | (cases e; done) | skip
   cases e
   exact ⟨_, _, rfl, rfl, ok F1 H1 _ ((rl.go x1).set (.int _)) x1.ff⟩
 ·cases e
def mexpr (x : ME) : MS := fun ρ => (x ρ).map fun _ => .nx ρ
theorem psd_expr (he : PD X e ma) (hs : swapsWith e none pos.line X.env = pure false := by rfl) : PSd X (.Expr e pos) (mexpr ma) := (ps_expr he hs).imp fun D σ H hpat => by
 obtain ⟨F0, H0, F, ρ, o, rl, e, ok⟩ := hpat
 unfold mexpr at e
 cases h1 : ma ρ with
 | none => rw [h1] at e; cases e
 | some d =>
  rw [h1] at e; cases e
  exact ⟨F0, H0, F, ρ, d, rl, h1, fun v F1 H1 x1 r1 => ok F1 H1 _ (rl.go x1) x1.ff⟩
def mret (x : ME) : MS := fun ρ => (x ρ).map .rt
def mretF (x : ML) : MS := fun ρ => (x ρ).map .rf
def mretO (i : Nat) : MS := fun ρ => match ρ[i]? with | some (some (.own ds)) => some (.rf ds) | some (some (.sh d)) => some (.rt d) | _ => none
theorem psd_ret (he : PD X e ma) : PSd X (.Return (some e) pos) (mret ma) := (ps_ret he).imp fun D σ H hpat => by
 obtain ⟨F0, H0, F, ρ, o, rl, e, ok⟩ := hpat
 unfold mret at e
 cases h1 : ma ρ with
 | none => rw [h1] at e; cases e
 | some d =>
  rw [h1] at e; cases e
  exact ⟨F0, H0, F, ρ, d, rl, h1, fun v F1 H1 x1 r1 => ok v F1 H1 (rl.ext.trans x1) r1⟩
theorem psd_retF {mf : ML} (he : PF X e mf) : PSd X (.Return (some e) pos) (mretF mf) := (ps_ret he).imp fun D σ H hpat => by
 obtain ⟨F0, H0, F, ρ, o, rl, e, ok⟩ := hpat
 unfold mretF at e
 cases h1 : mf ρ with
 | none => rw [h1] at e; cases e
 | some ds =>
  rw [h1] at e; cases e
  exact ⟨F0, H0, F, ρ, ds, rl, h1, fun p xs F1 H1 x1 hp hF hH r1 => ok p xs F1 H1 (rl.ext.trans x1) (rl.ext.hh.free hp) hF hH r1⟩
theorem psd_retO (i : Nat) {x : Str} {pos' : Pos} (h : PE X (.Name x pos') (tVar i)) : PSd X (.Return (some (.Name x pos')) pos) (mretO i) := (ps_ret h).imp fun D σ H hpat => by
 obtain ⟨F0, H0, F, ρ, o, rl, e, ok⟩ := hpat
 unfold mretO at e
 split at e
 ·rename_i ds h1
  cases e
  obtain ⟨p, xs, e1, e2, e3, e4, e5⟩ := rl.own i _ h1
  exact ⟨_, e1, ok p xs F H rl.ext e5 e2 e3 e4⟩
 ·rename_i d h1
  cases e
  obtain ⟨v, e1, e2⟩ := rl.sh i _ h1
  exact ⟨_, e1, ok v F H rl.ext e2⟩
 ·cases e
def mapp (i : Nat) (x : ME) : MS := fun ρ => match ρ[i]? with | some (some (.own ds)) => (x ρ).bind fun d => if ds.length < sizeLine then some (.nx (ρ.set i (some (.own (ds ++ [d]))))) else none | _ => none
theorem psd_append {i : Nat} {x : Str} {e : Expr} {px apos cpos : Pos} (hv : PE X (.Name x px) (tVar i)) (he : PD X e ma)
  (hE : ∀ t, PA X [e] t -> PE X (.Call (.Attribute (.Name x px) "append" apos) [e] [] cpos) (tBM X.K "list" rAppend (tVar i) t)) (hA : PAs X [e] (acons ma anil)) (hs : swapsWith (.Call (.Attribute (.Name x px) "append" apos) [e] [] cpos) none pos.line X.env = pure false := by rfl) :
  PSd X (.Expr (.Call (.Attribute (.Name x px) "append" apos) [e] [] cpos) pos) (mapp i ma) := (ps_expr (hE _ hA) hs).imp fun D σ H hpat => by
 obtain ⟨F0, H0, F, ρ, o, rl, e, ok⟩ := hpat
 unfold mapp at e
 split at e
 ·rename_i ds h1
  obtain ⟨p, xs, e1, e2, e3, e4, e5⟩ := rl.own i _ h1
  cases h2 : ma ρ with
  | none => rw [h2] at e; cases e
  | some d =>
   rw [h2] at e
   have e : (if ds.length < sizeLine then some (Out.nx (ρ.set i (some (.own (ds ++ [d]))))) else none) = some o := e
   split at e
   ·rename_i hz
    cases e
    refine ⟨_, e1, .inl ⟨rfl, _, SqL.of e3⟩, F0, H0, F, ρ, [d], rl, by unfold acons anil; rw [h2]; rfl, fun vs F1 H1 x1 r1 => ?_⟩
    cases r1 with
    | cons r rr =>
     cases rr
     have hp : H1 p = some (.lst xs) := x1.hh _ _ e3
     exact ⟨p, xs, _, rfl, rfl, hp, by rw [e4.length]; exact hz, ok F1 _ σ ((rl.go x1).write h1 e1 ((e4.mono x1.ff).append (.cons r .nil))) x1.ff⟩
   ·cases e
 ·cases e
def msetix (i : Nat) (ix v : ME) : MS := fun ρ => (v ρ).bind fun d => match ρ[i]? with
 | some (some (.own ds)) => (ix ρ).bind (fun x => match x with | .int k => (ixN ds.length k).map fun j => .nx (ρ.set i (some (.own (ds.set j d)))) | _ => none)
 | some (some (.ob p ds)) => (ix ρ).bind (fun x => match x with | .int k => (ixN ds.length k).map fun j => .nx (ρ.set i (some (.ob p (ds.set j d)))) | _ => none)
 | _ => none
def mfreeze (i : Nat) (m : MS) : MS := fun ρ => match ρ[i]? with | some (some (.own ds)) => m (ρ.set i (some (.sh (.lst ds)))) | _ => m ρ
theorem pssd_freeze (i : Nat) {sts : List Stmt} {m : MS} (h : PSsd X sts m) : PSsd X sts (mfreeze i m) := h.imp fun D σ H hpat => by
 obtain ⟨F0, H0, F, ρ, o, rl, e, ok⟩ := hpat
 unfold mfreeze at e
 split at e
 ·rename_i ds h1
  obtain ⟨F', rl', sf⟩ := rl.freeze h1
  exact ⟨F0, H0, F', _, o, rl', e, ok.mono sf⟩
 ·exact ⟨F0, H0, F, ρ, o, rl, e, ok⟩
inductive Tg where
 | nm (i : Nat) | tp (is : List Nat) | nt (i : Nat) (is : List Nat)
def setAll : List Nat -> List D -> Ro -> Option Ro
 | [], [], ρ => some ρ
 | i :: is, d :: ds, ρ => setAll is ds (ρ.set i (some (.sh d)))
 | _, _, _ => none
def tgD : Tg -> D -> Ro -> Option Ro
 | .nm i, d, ρ => some (ρ.set i (some (.sh d)))
 | .tp is, .tup ds, ρ => setAll is ds ρ
 | .nt i is, .tup [d, .tup ds], ρ => setAll is ds (ρ.set i (some (.sh d)))
 | _, _, _ => none
def TGd (K : W.Frag) (g : Tg) : TG := fun v σ H Q => ∃ F0 H0 F ρ d ρ', Rl K F0 H0 F H σ ρ /\ Rep K F v d /\ tgD g d ρ = some ρ' /\ ∀ F' H' σ', Rl K F0 H0 F' H' σ' ρ' -> Ext F H F' H' -> Q σ' H'
def PGd (X : Cx) (tg : Expr) (g : Tg) : Prop := PG X tg (TGd X.K g)
theorem PG.imp {tg : Expr} {t t' : TG} (h : PG X tg t) (i : ∀ v σ H Q, t' v σ H Q -> t v σ H Q) : PG X tg t' := fun pins s σ H v u Q I r q => h pins s σ H v u Q I r (i v σ H Q q)
theorem pgd_name {i : Nat} {x : Str} {pos : Pos} (h : PG X (.Name x pos) (gName i)) : PGd X (.Name x pos) (.nm i) := PG.imp h fun v σ H Q hpat => by
 obtain ⟨F0, H0, F, ρ, d, ρ', rl, r, e, q⟩ := hpat
 cases e; exact q F H _ (rl.set r) (.refl rl.fh)
def gAll : List Nat -> TGs
 | [] => gNil
 | i :: is => gCons (gName i) (gAll is)
theorem gAll_ok {K : W.Frag} {F0 H0 F H : Hp} {Q : St -> Hp -> Prop} : ∀ (is : List Nat) (vs : List V) (ds : List D) (σ : St) (ρ ρ' : Ro), Rl K F0 H0 F H σ ρ -> Reps K F vs ds -> setAll is ds ρ = some ρ' -> (∀ σ', Rl K F0 H0 F H σ' ρ' -> Q σ' H) -> gAll is vs σ H Q
 | [], _, [], σ, ρ, ρ', rl, r, e, q => by cases r; cases e; exact ⟨rfl, q σ rl⟩
 | [], _, _ :: _, _, _, _, _, _, e, _ => by cases e
 | _ :: _, _, [], _, _, _, _, _, e, _ => by cases e
 | i :: is, _, d :: ds, σ, ρ, ρ', rl, r, e, q => by
  cases r with
  | cons r rr => exact ⟨_, _, rfl, gAll_ok is _ ds _ _ ρ' (rl.set r) rr e q⟩
theorem setAll_len : ∀ (is : List Nat) (ds : List D) (ρ ρ' : Ro), setAll is ds ρ = some ρ' -> ds.length = is.length
 | [], [], _, _, _ => rfl
 | [], _ :: _, _, _, e => by cases e
 | _ :: _, [], _, _, e => by cases e
 | _ :: is, _ :: ds, ρ, ρ', e => congrArg (· + 1) (setAll_len is ds _ ρ' e)
theorem pgd_tup {es : List Expr} {k n : Nat} {is : List Nat} {pos : Pos} (h : PG X (.Tuple es k pos) (gTup X.K n (gAll is))) (hn : is.length = n := by rfl) : PGd X (.Tuple es k pos) (.tp is) := PG.imp h fun v σ H Q hpat => by
 obtain ⟨F0, H0, F, ρ, d, ρ', rl, r, e, q⟩ := hpat
 cases r with
 | tup s t => exact ⟨_, _, rfl, rl.fh.seqT s, by rw [t.length, setAll_len _ _ _ _ e, hn], gAll_ok is _ _ σ ρ ρ' rl t e fun σ' rl' => q F H σ' rl' (.refl rl.fh)⟩
 | _ => cases e
structure ItD (K : W.Frag) (F : Hp) (J : It) (its : List D) : Prop where
 go : ∀ (i : Nat) F1 H1, Same F F1 -> Same F1 H1 -> i < its.length -> J.go i H1
 yld : ∀ (i : Nat) F1 H1 x H2 d, Same F F1 -> Same F1 H1 -> its[i]? = some d -> J.yld i H1 x H2 -> ∃ F2, Ext F1 H1 F2 H2 /\ Rep K F2 x d
 stop : ∀ F1 H1, Same F F1 -> Same F1 H1 -> J.stop its.length H1
def TId (K : W.Frag) (mi : ML) : TI := fun σ H R => ∃ F0 H0 F ρ its, Rl K F0 H0 F H σ ρ /\ mi ρ = some its /\ ∀ J F' H', Ext F H F' H' -> ItD K F' J its -> R J H'
def PId (X : Cx) (tg iter : Expr) (mi : ML) : Prop := PI X tg iter (TId X.K mi)
theorem PI.imp {tg it : Expr} {t t' : TI} (h : PI X tg it t) (i : ∀ σ H R, t' σ H R -> t σ H R) : PI X tg it t' := fun pins s σ H R I q => h pins s σ H R I (i σ H R q)
theorem itd_list {K : W.Frag} {F : Hp} {p : Addr} {xs : List V} {ds : List D} (s : SqL K F p xs) (r : Reps K F xs ds) : ItD K F (Itl K p) ds where
 go := fun i F1 H1 a b hi => by
  obtain ⟨v, e, _⟩ := r.get (getElem?_eq_getElem hi)
  exact ⟨xs, v, b.seq (a.seq s), e⟩
 yld := fun i F1 H1 x H2 d a b e y => by
  obtain ⟨rfl, y⟩ := y
  obtain ⟨v, e1, e2⟩ := r.get e
  have := y xs (b.seq (a.seq s))
  rw [e1] at this; cases this
  exact ⟨F1, .refl b, e2.mono a⟩
 stop := fun F1 H1 a b => ⟨xs, b.seq (a.seq s), by rw [r.length]; exact Nat.le_refl _⟩
theorem pid_seq {tg : Expr} (hd : PD X e ma) : PId X tg e (aslst ma) := PI.imp (pi_list hd) fun σ H R hpat => by
 obtain ⟨F0, H0, F, ρ, its, rl, e, q⟩ := hpat
 unfold aslst at e
 split at e
 ·rename_i ds h1
  cases e
  refine ⟨F0, H0, F, ρ, _, rl, h1, fun v F1 H1 x1 r1 => ?_⟩
  cases r1 with
  | lst s t => exact ⟨_, rfl, ⟨_, x1.fh.seq s⟩, q _ F1 H1 x1 (itd_list s t)⟩
 ·cases e
def rangeD (lo : Int) (n : Nat) : List D := (List.range n).map fun (i : Nat) => D.int (lo + (i : Int))
theorem rangeD_length (lo : Int) (n : Nat) : (rangeD lo n).length = n := by unfold rangeD; simp
theorem itd_range {K : W.Frag} {F : Hp} {lo : Int} {n : Nat} : ItD K F (Itr lo n) (rangeD lo n) where
 go := fun i F1 H1 a b hi => by rw [rangeD_length] at hi; exact hi
 yld := fun i F1 H1 x H2 d a b e y => by
  obtain ⟨rfl, rfl⟩ := y
  unfold rangeD at e
  rw [getElem?_map] at e
  have hi : i < n := by
   rcases Nat.lt_or_ge i n with h | h
   ·exact h
   ·rw [getElem?_eq_none (by simpa using h)] at e; cases e
  rw [getElem?_range hi] at e
  cases e
  exact ⟨F1, .refl b, .int _⟩
 stop := fun F1 H1 a b => by rw [rangeD_length]; exact Nat.le_refl n
def okR (j : Int) : Bool := decide (-(2 ^ 62) <= j) && decide (j < 2 ^ 62)
def rng1 : List D -> Option (List D)
 | [.int j] => if okR j = true then some (rangeD 0 j.toNat) else none
 | _ => none
@[irreducible] def mlist (f : List D -> Option (List D)) (m : ML) : ML := fun ρ => (m ρ).bind f
theorem mlist_some {f : List D -> Option (List D)} {m : ML} {ρ : Ro} {gs : List D} (h : mlist f m ρ = some gs) : ∃ ds, m ρ = some ds /\ f ds = some gs := by
 unfold mlist at h
 cases h1 : m ρ with
 | none => rw [h1] at h; cases h
 | some ds => rw [h1] at h; exact ⟨ds, rfl, h⟩
theorem pid_range1 {tg a : Expr} {m : ML} {p pos : Pos} (hg : Gl X "range") (hm : X.mg "range" = none) (ha : PAs X [a] m) (hs : starEach [a] X.env = [(false, eval a X.env)] := by rfl) : PId X tg (.Call (.Name "range" p) [a] [] pos) (mlist rng1 m) := PI.imp (pi_range1 hg hm ha hs) fun σ H R hpat => by
 obtain ⟨F0, H0, F, ρ, its, rl, e, q⟩ := hpat
 obtain ⟨ds, h1, h2⟩ := mlist_some e
 refine ⟨F0, H0, F, ρ, ds, rl, h1, fun vs F1 H1 x1 r1 => ?_⟩
 unfold rng1 at h2
 split at h2
 ·rename_i j
  split at h2
  ·rename_i hk
   cases h2
   unfold okR at hk
   simp only [Bool.and_eq_true, decide_eq_true_eq] at hk
   cases r1 with
   | cons r rr =>
    cases rr; cases r
    exact ⟨j, rfl, hk.1, hk.2, q _ F1 H1 x1 itd_range⟩
  ·cases h2
 ·cases h2
def zipW3 : List D -> List D -> List D -> List D
 | d :: ds, e :: es, f :: fs => .tup [d, e, f] :: zipW3 ds es fs
 | _, _, _ => []
theorem zipW3_length : ∀ ds es fs, (zipW3 ds es fs).length = min ds.length (min es.length fs.length)
 | [], _, _ => by simp [zipW3]
 | _ :: _, [], _ => by simp [zipW3]
 | _ :: _, _ :: _, [] => by simp [zipW3]
 | _ :: ds, _ :: es, _ :: fs => by simp only [zipW3, length_cons, zipW3_length ds es fs]; omega
theorem zipW3_get : ∀ ds es fs (i : Nat) d e f, ds[i]? = some d -> es[i]? = some e -> fs[i]? = some f -> (zipW3 ds es fs)[i]? = some (.tup [d, e, f])
 | [], _, _, _, _, _, _, h, _, _ => by simp at h
 | _ :: _, [], _, _, _, _, _, _, h, _ => by simp at h
 | _ :: _, _ :: _, [], _, _, _, _, _, _, h => by simp at h
 | _ :: ds, _ :: es, _ :: fs, 0, d, e, f, h1, h2, h3 => by simp at h1 h2 h3; subst h1 h2 h3; rfl
 | _ :: ds, _ :: es, _ :: fs, i + 1, d, e, f, h1, h2, h3 => by
  have := zipW3_get ds es fs i d e f (by simpa using h1) (by simpa using h2) (by simpa using h3)
  simpa [zipW3] using this
def zip3 : List D -> Option (List D)
 | [.lst ds, .lst es, .lst fs] => some (zipW3 ds es fs)
 | _ => none
theorem itd_zip3 {K : W.Frag} {F : Hp} {p q o : Addr} {xs ys zs : List V} {ds es fs : List D} (s : SqL K F p xs) (r : Reps K F xs ds) (s' : SqL K F q ys) (r' : Reps K F ys es) (s'' : SqL K F o zs) (r'' : Reps K F zs fs) : ItD K F (Itz3 K p q o) (zipW3 ds es fs) where
 go := fun i F1 H1 a b hi => by
  rw [zipW3_length] at hi
  obtain ⟨v, e, _⟩ := r.get (getElem?_eq_getElem (show i < ds.length by omega))
  obtain ⟨w, e', _⟩ := r'.get (getElem?_eq_getElem (show i < es.length by omega))
  obtain ⟨u, e'', _⟩ := r''.get (getElem?_eq_getElem (show i < fs.length by omega))
  exact ⟨xs, ys, zs, v, w, u, b.seq (a.seq s), b.seq (a.seq s'), b.seq (a.seq s''), e, e', e''⟩
 yld := fun i F1 H1 x H2 d a b e y => by
  obtain ⟨t, u, v, w, rfl, ht, rfl, y1, y2, y3⟩ := y
  have y1 := y1 xs (b.seq (a.seq s))
  have y2 := y2 ys (b.seq (a.seq s'))
  have y3 := y3 zs (b.seq (a.seq s''))
  obtain ⟨d1, e1, r1⟩ := r.get' y1
  obtain ⟨d2, e2, r2⟩ := r'.get' y2
  obtain ⟨d3, e3, r3⟩ := r''.get' y3
  rw [zipW3_get _ _ _ i d1 d2 d3 e1 e2 e3] at e
  cases e
  refine ⟨upd F1 t (.tup [u, v, w]), Ext.laid b ht, .tup (SqT.of upd_same) ?_⟩
  have mm : Same F (upd F1 t (.tup [u, v, w])) := a.trans ((Same.refl F1).put (b.free ht))
  exact .cons (r1.mono mm) (.cons (r2.mono mm) (.cons (r3.mono mm) .nil))
 stop := fun F1 H1 a b => ⟨xs, ys, zs, b.seq (a.seq s), b.seq (a.seq s'), b.seq (a.seq s''), by rw [r.length, r'.length, r''.length, zipW3_length]; omega⟩
theorem pid_zip3 {es : List Expr} {tk : Nat} {tp : Pos} {a b c : Expr} {m : ML} {p pos : Pos} (hg : Gl X "zip") (hm : X.mg "zip" = none) (ha : PAs X [a, b, c] m) (hs : starEach [a, b, c] X.env = (false, eval a X.env) :: starEach [b, c] X.env := by rfl) (hs2 : ∀ pos, ((backTo pos (starEach [b, c] X.env)).any fun x => x.1) = false := by intro _; rfl) : PId X (.Tuple es tk tp) (.Call (.Name "zip" p) [a, b, c] [] pos) (mlist zip3 m) := PI.imp (pi_zip3 hg hm ha hs hs2) fun σ H R hpat => by
 obtain ⟨F0, H0, F, ρ, its, rl, e, q⟩ := hpat
 obtain ⟨ds, h1, h2⟩ := mlist_some e
 refine ⟨F0, H0, F, ρ, ds, rl, h1, fun vs F1 H1 x1 r1 => ?_⟩
 unfold zip3 at h2
 split at h2
 ·cases h2
  cases r1 with
  | cons r rr =>
   cases rr with
   | cons r2 rr =>
    cases rr with
    | cons r3 rr =>
    cases rr
    cases r with
    | lst s t =>
     cases r2 with
     | lst s2 t2 =>
      cases r3 with
      | lst s3 t3 => exact ⟨_, _, _, _, _, _, rfl, x1.fh.seq s, x1.fh.seq s2, x1.fh.seq s3, q _ F1 H1 x1 (itd_zip3 s t s2 t2 s3 t3)⟩
 ·cases h2
def enumL : Nat -> List D -> List D
 | _, [] => []
 | i, d :: ds => .tup [.int i, d] :: enumL (i + 1) ds
theorem enumL_length : ∀ i ds, (enumL i ds).length = ds.length
 | _, [] => rfl
 | i, _ :: ds => by simp [enumL, enumL_length (i + 1) ds]
theorem enumL_get : ∀ (k : Nat) ds (i : Nat) d, ds[i]? = some d -> (enumL k ds)[i]? = some (.tup [.int ((k + i : Nat) : Int), d])
 | _, [], _, _, h => by simp at h
 | k, _ :: ds, 0, d, h => by simp at h; subst h; rfl
 | k, _ :: ds, i + 1, d, h => by
  have := enumL_get (k + 1) ds i d (by simpa using h)
  have e : k + 1 + i = k + (i + 1) := by omega
  rw [e] at this
  simpa [enumL] using this
def enum1 : List D -> Option (List D)
 | [.lst ds] => some (enumL 0 ds)
 | _ => none
theorem itd_enum {K : W.Frag} {F : Hp} {p : Addr} {xs : List V} {ds : List D} (s : SqL K F p xs) (r : Reps K F xs ds) : ItD K F (Ite K p) (enumL 0 ds) where
 go := fun i F1 H1 a b hi => by
  rw [enumL_length] at hi
  obtain ⟨v, e, _⟩ := r.get (getElem?_eq_getElem hi)
  exact ⟨xs, v, b.seq (a.seq s), e⟩
 yld := fun i F1 H1 x H2 d a b e y => by
  obtain ⟨t, u, rfl, ht, rfl, y1⟩ := y
  have y1 := y1 xs (b.seq (a.seq s))
  obtain ⟨d1, e1, r1⟩ := r.get' y1
  rw [enumL_get 0 ds i d1 e1, Nat.zero_add] at e
  cases e
  refine ⟨upd F1 t (.tup [.int i, u]), Ext.laid b ht, .tup (SqT.of upd_same) ?_⟩
  have mm : Same F (upd F1 t (.tup [.int i, u])) := a.trans ((Same.refl F1).put (b.free ht))
  exact .cons (.int _) (.cons (r1.mono mm) .nil)
 stop := fun F1 H1 a b => ⟨xs, b.seq (a.seq s), by rw [r.length, enumL_length]; exact Nat.le_refl _⟩
theorem pid_enum {es : List Expr} {tk : Nat} {tp : Pos} {a : Expr} {m : ML} {p pos : Pos} (hg : Gl X "enumerate") (hm : X.mg "enumerate" = none) (ha : PAs X [a] m) (hs : starEach [a] X.env = [(false, eval a X.env)] := by rfl) : PId X (.Tuple es tk tp) (.Call (.Name "enumerate" p) [a] [] pos) (mlist enum1 m) := PI.imp (pi_enum hg hm ha hs) fun σ H R hpat => by
 obtain ⟨F0, H0, F, ρ, its, rl, e, q⟩ := hpat
 obtain ⟨ds, h1, h2⟩ := mlist_some e
 refine ⟨F0, H0, F, ρ, ds, rl, h1, fun vs F1 H1 x1 r1 => ?_⟩
 unfold enum1 at h2
 split at h2
 ·cases h2
  cases r1 with
  | cons r rr =>
   cases rr
   cases r with
   | lst s t => exact ⟨_, _, rfl, x1.fh.seq s, q _ F1 H1 x1 (itd_enum s t)⟩
 ·cases h2
end
end
section
def forD (g : Tg) (body : MS) : List D -> MS
 | [], ρ => some (.nx ρ)
 | d :: ds, ρ => match tgD g d ρ with
  | some ρ1 => match body ρ1 with
   | some (.nx ρ2) => forD g body ds ρ2
   | some (.ct ρ2) => forD g body ds ρ2
   | some (.bk ρ2) => some (.nx ρ2)
   | o => o
  | none => none
def mfor (mi : ML) (g : Tg) (body : MS) : MS := fun ρ => (mi ρ).bind fun its => forD g body its ρ
theorem drop_get {α : Type} {xs : List α} {i : Nat} {d : α} (h : xs[i]? = some d) : xs.drop i = d :: xs.drop (i + 1) := by
 obtain ⟨hl, e⟩ := List.getElem?_eq_some_iff.mp h
 rw [drop_eq_getElem_cons hl, e]
section
variable {X : Cx} {a b c e : Expr} {ma mb : ME} {pos : Pos} {st : Stmt} {rest : List Stmt}
theorem psd_for {tg iter : Expr} {body : List Stmt} {mi : ML} {g : Tg} {mb : MS} (hp : PassesOwn (model X.prog X.w) X.A X.env X.xe) (hc : X.calm = true) (hi : PId X tg iter mi) (hg : PGd X tg g) (hb : PSsd X body mb)
  (hs : ∀ x, foldedSetIterable iter X.env x = pure x := by intro _; rfl) : PSd X (.For tg iter body [] pos) (mfor mi g mb) := (ps_for hp hc hi hg hb hs).imp fun Dn σ H hpat => by
 obtain ⟨F0, H0, F, ρ, o, rl, e, ok⟩ := hpat
 unfold mfor at e
 cases h1 : mi ρ with
 | none => rw [h1] at e; cases e
 | some its =>
  rw [h1] at e
  have e : forD g mb its ρ = some o := e
  refine ⟨F0, H0, F, ρ, its, rl, h1, fun J F1 H1 x1 I => ?_⟩
  refine ⟨fun i m σ' H' => ∃ F' ρ', Rl X.K F0 H0 F' H' σ' ρ' /\ Same F1 F' /\ i <= its.length /\ m = its.length - i /\ forD g mb (its.drop i) ρ' = some o, ⟨_, F1, ρ, rl.go x1, Same.refl _, Nat.zero_le _, rfl, e⟩, ?_⟩
  rintro i m σ' H' ⟨F', ρ', rl', sf, hi', rfl, e'⟩
  by_cases hlt : i < its.length
  ·right
   have hd := getElem?_eq_getElem hlt
   refine ⟨I.go i F' H' sf rl'.fh hlt, fun σ2 H2 => ∃ F2 ρ2, Rl X.K F0 H0 F2 H2 σ2 ρ2 /\ Same F1 F2 /\ forD g mb (its.drop (i + 1)) ρ2 = some o, ?_, fun x H2 y => ?_⟩
   ·rintro σ2 H2 ⟨F2, ρ2, rl2, sf2, e2⟩
    exact ⟨its.length - (i + 1), by omega, F2, ρ2, rl2, sf2, hlt, rfl, e2⟩
   ·obtain ⟨F2, x2, r2⟩ := I.yld i F' H' x H2 _ sf rl'.fh hd y
    rw [drop_get hd] at e'
    unfold forD at e'
    cases h2 : tgD g its[i] ρ' with
    | none => simp only [h2] at e'; cases e'
    | some ρ1 =>
     simp only [h2] at e'
     refine ⟨F0, H0, F2, ρ', _, ρ1, rl'.go x2, r2, h2, fun F3 H3 σ3 rl3 x3 => ?_⟩
     have s3 : Same F1 F3 := (sf.trans x2.ff).trans x3.ff
     cases h3 : mb ρ1 with
     | none => simp only [h3] at e'; cases e'
     | some o1 =>
      simp only [h3] at e'
      refine ⟨F0, H0, F3, ρ1, o1, rl3, h3, ?_⟩
      cases o1 with
      | nx ρ2 => exact fun F4 H4 σ4 rl4 s4 => ⟨F4, ρ2, rl4, s3.trans s4, e'⟩
      | ct ρ2 => exact fun F4 H4 σ4 rl4 s4 => ⟨F4, ρ2, rl4, s3.trans s4, e'⟩
      | bk ρ2 =>
       cases e'
       exact fun F4 H4 σ4 rl4 s4 => ok F4 H4 σ4 rl4 ((x1.ff.trans s3).trans s4)
      | rt d => cases e'; exact ok
      | rf d => cases e'; exact ok
      | rp d ds => cases e'; exact ok
      | rg d p r => cases e'; exact ok
      | rgf d p r => cases e'; exact ok
  ·left
   have hieq : i = its.length := by omega
   subst hieq
   rw [drop_length] at e'
   have e' : some (Out.nx ρ') = some o := e'
   cases e'
   exact ⟨I.stop F' H' sf rl'.fh, ok F' H' σ' rl' (x1.ff.trans sf)⟩
end
end
section
def blkRo (src : List (Option Nat)) (ρ : Ro) : Ro := src.map fun o => o.bind fun i => match ρ[i]? with | some (some (.sh d)) => some (.sh d) | _ => none
def compD (g : Tg) (c : MB) (elt : ME) : List D -> Ro -> List D -> Option (List D)
 | [], _, acc => some acc
 | d :: ds, ρ, acc => match tgD g d ρ with
  | some ρ1 => match c ρ1 with
   | some true => match elt ρ1 with
    | some x => if acc.length < sizeLine then compD g c elt ds ρ1 (acc ++ [x]) else none
    | none => none
   | some false => compD g c elt ds ρ1 acc
   | none => none
  | none => none
@[irreducible] def mcomp (src : List (Option Nat)) (mi : ML) (g : Tg) (c : MB) (elt : ME) : ML := fun ρ => (mi ρ).bind fun its => compD g c elt its (blkRo src ρ) []
def NoOwn (ρ : Ro) : Prop := ∀ (i : Nat) ds, ρ[i]? ≠ some (some (.own ds)) /\ ∀ p, ρ[i]? ≠ some (some (.ob p ds))
theorem NoOwn.set {ρ : Ro} (h : NoOwn ρ) (i : Nat) (d : D) : NoOwn (ρ.set i (some (.sh d))) := fun j ds => ⟨fun e => by
 by_cases hj : i = j
 ·subst hj
  have hl : i < ρ.length := by
   rcases Nat.lt_or_ge i ρ.length with z | z
   ·exact z
   ·rw [getElem?_eq_none (by simpa using z)] at e; cases e
  rw [getElem?_set_self hl] at e; cases e
 ·rw [getElem?_set_ne hj] at e; exact (h j ds).1 e, fun p e => (h j ds).2 p (set_ob e).2⟩
theorem NoOwn.all : ∀ (is : List Nat) (ds : List D) {ρ ρ' : Ro}, NoOwn ρ -> setAll is ds ρ = some ρ' -> NoOwn ρ'
 | [], [], ρ, ρ', h, e => by cases e; exact h
 | [], _ :: _, _, _, _, e => by cases e
 | _ :: _, [], _, _, _, e => by cases e
 | i :: is, d :: ds, ρ, ρ', h, e => NoOwn.all is ds (h.set i d) e
theorem NoOwn.tg {g : Tg} {d : D} {ρ ρ' : Ro} (h : NoOwn ρ) (e : tgD g d ρ = some ρ') : NoOwn ρ' := by
 cases g with
 | nm i => cases e; exact h.set i d
 | tp is => cases d <;> first | (cases e; done) | exact NoOwn.all is _ h e
 | nt i is =>
  cases d with
  | tup ds =>
   match ds, e with
   | [d, .tup ds], e => exact NoOwn.all is _ (h.set i d) e
  | _ => cases e
theorem Rl.blk {K : W.Frag} {F0 H0 F H : Hp} {σ : St} {ρ : Ro} (r : Rl K F0 H0 F H σ ρ) (src : List (Option Nat)) : Rl K F H F H (blk0 src σ) (blkRo src ρ) /\ NoOwn (blkRo src ρ) := by
 have no1 : ∀ (i : Nat) x, (blkRo src ρ)[i]? = some (some x) -> ∃ d, x = S.sh d := fun i x e => by
  unfold blkRo at e
  rw [getElem?_map] at e
  cases h : src[i]? with
  | none => rw [h] at e; cases e
  | some o =>
   rw [h] at e
   cases o with
   | none => cases e
   | some k =>
    simp only [Option.map_some, Option.bind_some] at e
    split at e
    ·cases e; exact ⟨_, rfl⟩
    ·cases e
 have no : NoOwn (blkRo src ρ) := fun i ds => ⟨fun e => (by obtain ⟨d, z⟩ := no1 i _ e; cases z), fun p e => (by obtain ⟨d, z⟩ := no1 i _ e; cases z)⟩
 refine ⟨⟨.refl r.fh, by unfold blk0 blkRo; simp, fun i d e => ?_, fun i ds e => absurd e (no i ds).1, fun i j p ds es _ e => absurd e (no i ds).1, fun i p ds e => absurd e ((no i ds).2 p), fun i j p ds es e => absurd e ((no i ds).2 p), fun i j p q ds es e => absurd e ((no i ds).2 p)⟩, no⟩
 unfold blkRo at e
 unfold blk0
 rw [getElem?_map] at e ⊢
 cases h : src[i]? with
 | none => rw [h] at e; cases e
 | some o =>
  rw [h] at e
  cases o with
  | none => cases e
  | some k =>
   simp only [Option.map_some, Option.bind_some] at e ⊢
   split at e
   ·rename_i d' h'
    cases e
    obtain ⟨v, e1, e2⟩ := r.sh k _ h'
    exact ⟨v, by rw [e1]; rfl, e2⟩
   ·cases e
theorem Rl.rebase {K : W.Frag} {F1 F H : Hp} {σ : St} {ρ : Ro} {p : Addr} {xs ys : List V} (r : Rl K F1 (upd F1 p (.lst xs)) F H σ ρ) (hF : F p = none) (hF1 : F1 p = none) : Rl K F1 (upd F1 p (.lst ys)) F (upd H p (.lst ys)) σ ρ := by
 have ne : ∀ q, upd F1 p (.lst xs) q = none -> q ≠ p := fun q z w => by rw [w, upd_same] at z; cases z
 refine ⟨⟨r.ext.ff, fun b u e => ?_, r.fh.put hF, fun b e n => ?_, r.ext.nf⟩, r.len, r.sh, fun i ds e => ?_, r.inj, fun i q ds e => ?_, r.obn, r.ob1⟩
 ·by_cases hb : b = p
  ·subst hb; rw [upd_same] at e ⊢; exact e
  ·rw [upd_ne hb] at e ⊢
   exact r.ext.hh b u (by rw [upd_ne hb]; exact e)
 ·have hb : b ≠ p := fun w => by rw [w, hF] at n; exact n rfl
  rw [upd_ne hb]; exact e
 ·obtain ⟨q, zs, a, b, c, d, z⟩ := r.own i ds e
  have hq := ne q z
  rw [upd_ne hq] at z
  exact ⟨q, zs, a, b, by rw [upd_ne hq]; exact c, d, by rw [upd_ne hq]; exact z⟩
 ·obtain ⟨a, b, z, zs, c, d⟩ := r.ob i q ds e
  have hq := ne q z
  rw [upd_ne hq] at z
  exact ⟨a, b, by rw [upd_ne hq]; exact z, zs, by rw [upd_ne hq]; exact c, d⟩
theorem Ext.acc {F H F' H' : Hp} {p : Addr} {o : HO} (x : Ext F H F' H') (hp : H p = none) (hF : F' p = none) : Ext F H F' (upd H' p o) := ⟨x.ff, x.hh.put hp, x.fh.put hF, x.new, x.nf⟩
theorem Ext.stay {F' H' F3 H3 : Hp} {p : Addr} {o : HO} (x3 : Ext F' H' F3 H3) (hF' : F' p = none) (hH' : H' p = some o) : F3 p = none := by
 cases qq : F3 p with
 | none => rfl
 | some u => have := x3.new p hF' (by rw [qq]; simp); rw [this] at hH'; cases hH'
theorem Rl.noB {K : W.Frag} {F H : Hp} {σ : St} {ρ : Ro} {p : Addr} (r : Rl K F H F H σ ρ) (no : NoOwn ρ) (hp : H p = none) : Rl K F (upd F p (.lst [])) F (upd H p (.lst [])) σ ρ :=
 ⟨⟨Same.refl F, r.fh.put2, r.fh.put (r.fh.free hp), fun b e n => absurd e n, fun _ _ _ z => z⟩, r.len, r.sh, fun i ds e => absurd e (no i ds).1, r.inj, fun i p ds e => absurd e ((no i ds).2 p), r.obn, r.ob1⟩
theorem compD_cons {g : Tg} {c : MB} {elt : ME} {d : D} {ds acc out : List D} {ρ : Ro} (h : compD g c elt (d :: ds) ρ acc = some out) : ∃ ρ1, tgD g d ρ = some ρ1 /\ ((c ρ1 = some false /\ compD g c elt ds ρ1 acc = some out) \/ ∃ x, c ρ1 = some true /\ elt ρ1 = some x /\ acc.length < sizeLine /\ compD g c elt ds ρ1 (acc ++ [x]) = some out) := by
 rw [compD] at h
 cases h2 : tgD g d ρ with
 | none => rw [h2] at h; cases h
 | some ρ1 =>
  rw [h2] at h
  simp only at h
  refine ⟨ρ1, rfl, ?_⟩
  cases h3 : c ρ1 with
  | none => rw [h3] at h; cases h
  | some k =>
   rw [h3] at h
   cases k with
   | false => exact .inl ⟨rfl, h⟩
   | true =>
    simp only at h
    cases h4 : elt ρ1 with
    | none => rw [h4] at h; cases h
    | some x =>
     rw [h4] at h
     simp only at h
     by_cases hz : acc.length < sizeLine
     ·rw [if_pos hz] at h; exact .inr ⟨x, rfl, rfl, hz, h⟩
     ·rw [if_neg hz] at h; cases h
theorem comp_loop {K : PySem.W.Frag} {src : List (Option Nat)} {g : Tg} {c : MB} {elt : ME} {its out : List D} {F1 H1 : Hp} {σ : St} {ρb : Ro} {p : Addr} {J : It} {Q : VK} (f1 : Same F1 H1) (hp : H1 p = none) (rb : Rl K F1 (upd F1 p (.lst [])) F1 (upd H1 p (.lst [])) (blk0 src σ) ρb) (I : ItD K F1 J its) (e : compD g c elt its ρb [] = some out)
  (q : ∀ xs F' H', Ext F1 H1 F' H' -> F' p = none -> H' p = some (.lst xs) -> Reps K F' xs out -> Q (.ref p) H') :
  ∃ W : Nat -> Nat -> St -> Hp -> Prop, (∃ m, W 0 m (blk0 src σ) (upd H1 p (.lst []))) /\ ∀ i m σ' H', W i m σ' H' ->
   (J.stop i H' /\ Q (.ref p) H') \/ (J.go i H' /\ ∃ N : St -> Hp -> Prop, (∀ σ2 H2, N σ2 H2 -> ∃ m', m' < m /\ W (i + 1) m' σ2 H2) /\ ∀ x H2, J.yld i H' x H2 -> TGd K g x σ' H2 fun σ3 H3 => TC K c σ3 H3 fun b H4 =>
    if b = true then TD K elt σ3 H4 fun y H5 => ∃ xs, H5 p = some (.lst xs) /\ xs.length < sizeLine /\ N σ3 (upd H5 p (.lst (xs ++ [y]))) else N σ3 H4) := by
 have hF1 : F1 p = none := f1.free hp
 refine ⟨fun i m σ' H' => ∃ F' ρ' acc xs, Rl K F1 (upd F1 p (.lst xs)) F' H' σ' ρ' /\ Ext F1 H1 F' H' /\ H' p = some (.lst xs) /\ F' p = none /\ Reps K F' xs acc /\ i <= its.length /\ m = its.length - i /\ compD g c elt (its.drop i) ρ' acc = some out,
  ⟨_, F1, ρb, [], [], rb, (Ext.refl f1).acc hp hF1, upd_same, hF1, .nil, Nat.zero_le _, rfl, e⟩, ?_⟩
 clear rb e
 rintro i m σ' H' ⟨F', ρ', acc, xs, rl', xe, hH', hF', ra, hi', rfl, e'⟩
 by_cases hlt : i < its.length
 ·right
  have hd := getElem?_eq_getElem hlt
  refine ⟨I.go i F' H' xe.ff rl'.fh hlt, fun σ2 H2 => ∃ F2 ρ2 acc2 xs2, Rl K F1 (upd F1 p (.lst xs2)) F2 H2 σ2 ρ2 /\ Ext F1 H1 F2 H2 /\ H2 p = some (.lst xs2) /\ F2 p = none /\ Reps K F2 xs2 acc2 /\ compD g c elt (its.drop (i + 1)) ρ2 acc2 = some out, ?_, fun x H2 y => ?_⟩
  ·rintro σ2 H2 ⟨F2, ρ2, acc2, xs2, b1, b2, b3, b4, b5, b6⟩
   exact ⟨its.length - (i + 1), Nat.sub_lt_sub_left hlt (Nat.lt_succ_self i), F2, ρ2, acc2, xs2, b1, b2, b3, b4, b5, hlt, rfl, b6⟩
  ·obtain ⟨F2, x2, r2⟩ := I.yld i F' H' x H2 _ xe.ff rl'.fh hd y
   rw [drop_get hd] at e'
   obtain ⟨ρ1, h2, e3⟩ := compD_cons e'
   clear e' I q y hd
   refine ⟨F1, _, F2, ρ', _, ρ1, rl'.go x2, r2, h2, fun F3 H3 σ3 rl3 x3 => ?_⟩
   have x23 := x2.trans x3
   rcases e3 with ⟨h3, e4⟩ | ⟨d, h3, h4, hz, e4⟩
   ·refine ⟨F1, _, F3, ρ1, false, rl3, h3, fun F4 H4 x4 => ?_⟩
    have x24 := x23.trans x4
    exact iteF ⟨F4, ρ1, acc, xs, rl3.go x4, xe.trans x24, x24.hh _ _ hH', x24.stay hF' hH', ra.mono x24.ff, e4⟩
   ·refine ⟨F1, _, F3, ρ1, true, rl3, h3, fun F4 H4 x4 => iteT ⟨F1, _, F4, ρ1, d, rl3.go x4, h4, fun v F5 H5 x5 r5 => ?_⟩⟩
    have x25 := (x23.trans x4).trans x5
    have pn := x25.stay hF' hH'
    exact ⟨xs, x25.hh _ _ hH', by rw [ra.length]; exact hz, F5, ρ1, acc ++ [d], xs ++ [v], ((rl3.go x4).go x5).rebase pn hF1, (xe.trans x25).acc hp pn, upd_same, pn, (ra.mono x25.ff).append (.cons r5 .nil), e4⟩
 ·left
  have hieq : i = its.length := Nat.le_antisymm hi' (Nat.le_of_not_lt hlt)
  subst hieq
  rw [drop_length] at e'
  have e' : some acc = some out := e'
  cases e'
  exact ⟨I.stop F' H' xe.ff rl'.fh, q xs F' H' xe hF' hH' ra⟩
section
variable {X : Cx} {a b c e : Expr} {ma mb : ME} {pos : Pos} {st : Stmt} {rest : List Stmt}
def PTsd (X : Cx) (ifs : List Expr) (c : MB) : Prop := PTs X ifs (TC X.K c)
def cyes : MB := fun _ => some true
theorem ptsd_nil : PTsd X [] cyes := fun pins s σ H Q I hpat => by
 obtain ⟨F0, H0, F, ρ, b, rl, e, q⟩ := hpat
 cases e
 exact pts_nil pins s σ H Q I (q F H (.refl rl.fh))
theorem ptsd_one {ca : MB} (h : PC' X c ca) : PTsd X [c] ca := pts_one h
theorem comp_tf {K : W.Frag} {src : List (Option Nat)} {mi : ML} {g : Tg} {c : MB} {elt : ME} {σ : St} {H : Hp} {Q : VK} (h : TF K (mcomp src mi g c elt) σ H Q) : tComp src (TId K mi) (TGd K g) (TC K c) (TD K elt) σ H Q := by
 obtain ⟨F0, H0, F, ρ, out, rl, e, q⟩ := h
 unfold mcomp at e
 cases h1 : mi ρ with
 | none => rw [h1] at e; cases e
 | some its =>
  rw [h1] at e
  refine ⟨F0, H0, F, ρ, its, rl, h1, fun J F1 H1 x1 I p hp => ?_⟩
  obtain ⟨rb, no⟩ := (rl.go x1).blk src
  exact comp_loop x1.fh hp (rb.noB no hp) I e fun xs F' H' xe hF' hH' ra => q p xs F' H' (x1.trans xe) (x1.hh.free hp) hF' hH' ra
theorem pf_comp {sc : Scope} {N : List Str} {src : List (Option Nat)} {tg elt iter : Expr} {ifs : List Expr} {mi : ML} {g : Tg} {cc : MB} {me : ME} (B : Blk X sc N src) (hc : X.calm = true)
  (hi : PId X tg iter mi) (hg : ∀ C fp s H, PGd (blkCx X sc C N fp s H) tg g) (ht : ∀ C fp s H, PTsd (blkCx X sc C N fp s H) ifs cc) (he : ∀ C fp s H, PD (blkCx X sc C N fp s H) elt me)
  (hs : ∀ x, foldedSetIterable iter X.env x = pure x := by intro _; rfl) :
  PF X (.ListComp elt [⟨tg, iter, ifs, 0⟩] sc pos) (mcomp src mi g cc me) := (pe_comp (g := TGd X.K g) (tc := TC X.K cc) (te := TD X.K me) B hc hi (fun C fp s H => hg C fp s H) (fun C fp s H => ht C fp s H) (fun C fp s H => he C fp s H) hs).imp fun _ _ _ h => comp_tf h
theorem pf_imp {mf : ML} {σ : St} {H : Hp} {Q : VK} (h : TD X.K (mlst mf) σ H Q) : TF X.K mf σ H Q := by
 obtain ⟨F0, H0, F, ρ, d, r, e, q⟩ := h
 unfold mlst at e
 cases hm : mf ρ with
 | none => rw [hm] at e; cases e
 | some ds =>
  rw [hm] at e; cases e
  refine ⟨F0, H0, F, ρ, ds, r, hm, fun p xs F' H' x hp hF hH rs => ?_⟩
  exact q _ (upd F' p (.lst xs)) H' (x.freeze hF hp hH) (.lst (SqL.of upd_same) (rs.mono ((Same.refl F').put hF)))
theorem psd_setCs {i : Nat} {src : List (Option Nat)} {mi : ML} {g : Tg} {cc : MB} {me : ME} (h : PS X st (tAsg (tComp src (TId X.K mi) (TGd X.K g) (TC X.K cc) (TD X.K me)) (gName i))) : PSd X st (mset i (mlst (mcomp src mi g cc me))) := asg_d h fun _ _ _ q => comp_tf (pf_imp q)
inductive Rt where
 | sh (d : D) | fr (ds : List D) | pr (d : D) (ds : List D)
abbrev MF := List D -> Option Rt
def okT (K : W.Frag) (F H : Hp) (Q : VK) : Rt -> Prop
 | .sh d => ∀ v F' H', Ext F H F' H' -> Rep K F' v d -> Q v H'
 | .fr ds => ∀ p xs F' H', Ext F H F' H' -> H p = none -> F' p = none -> H' p = some (.lst xs) -> Reps K F' xs ds -> Q (.ref p) H'
 | .pr d ds => ∀ t v p xs F' H', Ext F H F' H' -> H t = none -> H p = none -> t ≠ p -> F' t = none -> F' p = none -> H' t = some (.tup [v, .ref p]) -> H' p = some (.lst xs) -> Rep K F' v d -> Reps K F' xs ds -> Q (.ref t) H'
def spR (K : W.Frag) (n : Nat) (m : MF) : Sp := fun vs H Q _ => vs.length = n /\ ∃ F ds r, Same F H /\ Reps K F vs ds /\ m ds = some r /\ okT K F H Q r
def startS (n : Nat) (ds : List D) : Ro := ds.map (fun d => some (.sh d)) ++ List.replicate (n - ds.length) none
def runB (n : Nat) (m : MS) : MF := fun ds => match m (startS n ds) with
 | some (.nx _) => some (.sh .non)
 | some (.rt d) => some (.sh d)
 | some (.rf es) => some (.fr es)
 | some (.rp d es) => some (.pr d es)
 | _ => none
theorem rl_start {K : W.Frag} {F H : Hp} {N : List Str} {vs : List V} {ds : List D} (s : Same F H) (r : Reps K F vs ds) : Rl K F H F H (start N vs) (startS N.length ds) := by
 have get : ∀ (i : Nat) x, (startS N.length ds)[i]? = some (some x) -> ∃ d, x = S.sh d /\ ds[i]? = some d := fun i x e => by
  unfold startS at e
  by_cases hi : i < ds.length
  ·rw [getElem?_append_left (by simpa using hi), getElem?_map] at e
   cases q : ds[i]? with
   | none => rw [q] at e; cases e
   | some d => rw [q] at e; cases e; exact ⟨d, rfl, rfl⟩
  ·rw [getElem?_append_right (by simpa using hi), getElem?_replicate] at e
   split at e <;> cases e
 refine ⟨.refl s, ?_, fun i d e => ?_, fun i ds e => ?_, fun i j p ds es _ e => ?_, fun i p ds e => ?_, fun i j p ds es e => ?_, fun i j p q ds es e => ?_⟩
 ·unfold start startS; simp [r.length]
 ·obtain ⟨d', e1, e2⟩ := get i _ e
  cases e1
  obtain ⟨v, e3, e4⟩ := r.get e2
  have hl : i < vs.length := (List.getElem?_eq_some_iff.mp e3).1
  refine ⟨v, ?_, e4⟩
  unfold start
  rw [getElem?_append_left (by simpa using hl), getElem?_map, e3]; rfl
 ·obtain ⟨d', e1, _⟩ := get i _ e
  cases e1
 ·obtain ⟨d', e1, _⟩ := get i _ e
  cases e1
 ·obtain ⟨d', e1, _⟩ := get i _ e
  cases e1
 ·obtain ⟨d', e1, _⟩ := get i _ e
  cases e1
 ·obtain ⟨d', e1, _⟩ := get i _ e
  cases e1
theorem Fun.okD {P : Program} {w : World} {K : W.Frag} {mg : Str -> Option Value} {base : Heap} {x qual : Str} {st : Stmt} {f : Addr} {fd : FuncData} {N ps : List Str} {k : Nat} {m : MS} (Fn : Fun K x qual st f fd) (Sc : FnScope N ps (defScope st))
  (hbody : ∀ (cdv : Value) (A : Around) (outer : List Env) (s : Shared) (H : Hp) (E : XK), Room k (A.deeper (envOfC qual (defScope st) s.heap.objs.size f cdv)) -> PSsd (cxOf CX0 P w K mg base N qual (defScope st) f cdv A outer s H E).nox (defBody st) m) :
  FnOk P w K mg base CX0 (k + 1) f fd ps (spR K ps.length (runB N.length m)) := by
 refine Fn.ok Sc (fun vs H Q E h => h.1) fun cdv A outer s H vs Q E hr h => ?_
 obtain ⟨hl, F, ds, r, sf, rs, e, ok⟩ := h
 unfold runB at e
 cases h1 : m (startS N.length ds) with
 | none => rw [h1] at e; cases e
 | some o =>
  rw [h1] at e
  refine ⟨_, hbody cdv A outer s H E hr, F, H, F, startS N.length ds, o, rl_start sf rs, h1, ?_⟩
  cases o with
  | nx ρ => cases e; exact fun F' H' σ' rl _ => ok .non F' H' rl.ext .non
  | rt d => cases e; exact ok
  | rf es => cases e; exact ok
  | rp d es => cases e; exact ok
  | rg d p r => cases e
  | rgf d p r => cases e
  | bk ρ => cases e
  | ct ρ => cases e
@[irreducible] def mcall (f : MF) (m : ML) : ME := fun ρ => (m ρ).bind fun ds => match f ds with | some (.sh d) => some d | some (.fr es) => some (.lst es) | some (.pr d es) => some (.tup [d, .lst es]) | none => none
@[irreducible] def mcallF (f : MF) (m : ML) : ML := fun ρ => (m ρ).bind fun ds => match f ds with | some (.fr es) => some es | _ => none
variable {E : XK} {es : List Expr} {mf : MF} {m : ML}
theorem pd_call {n : Nat} (h : ∀ t, PA X es t -> PE X e (tCall (spR X.K n mf) [] E t)) (hl : es.length = n) (ha : PAs X es m) (hm : ∀ ρ ds, m ρ = some ds -> ds.length = es.length) : PD X e (mcall mf m) := (h _ ha).imp fun σ H Q hpat => by
 obtain ⟨F0, H0, F, ρ, d, rl, e, q⟩ := hpat
 unfold mcall at e
 cases h1 : m ρ with
 | none => rw [h1] at e; cases e
 | some ds =>
  rw [h1] at e
  refine ⟨F0, H0, F, ρ, ds, rl, h1, fun vs F1 H1 x1 r1 => ?_⟩
  dsimp only [Option.bind] at e
  show spR X.K n mf (vs ++ []) H1 Q E
  rw [append_nil]
  refine ⟨by rw [r1.length, hm ρ ds h1, hl], F1, ds, ?_⟩
  split at e
  ·rename_i d' h2
   cases e
   exact ⟨_, x1.fh, r1, h2, fun v F2 H2 x2 r2 => q v F2 H2 (x1.trans x2) r2⟩
  ·rename_i es' h2
   cases e
   exact ⟨_, x1.fh, r1, h2, fun p xs F2 H2 x2 hp hF hH r2 => q _ (upd F2 p (.lst xs)) H2 (x1.trans (x2.freeze hF hp hH)) (.lst (SqL.of upd_same) (r2.mono ((Same.refl F2).put hF)))⟩
  ·rename_i d' es' h2
   cases e
   refine ⟨_, x1.fh, r1, h2, fun t v p xs F2 H2 x2 ht hp hne hFt hFp hHt hHp rv rs => ?_⟩
   have x3 := x2.freeze hFp hp hHp
   have hFt' : upd F2 p (.lst xs) t = none := by rw [upd_ne hne]; exact hFt
   have s2 : Same F2 (upd F2 p (.lst xs)) := (Same.refl F2).put hFp
   have s3 : Same (upd F2 p (.lst xs)) (upd (upd F2 p (.lst xs)) t (.tup [v, .ref p])) := (Same.refl _).put hFt'
   exact q _ (upd (upd F2 p (.lst xs)) t (.tup [v, .ref p])) H2 (x1.trans (x3.freeze hFt' ht hHt)) (.tup (SqT.of upd_same) (.cons (rv.mono (s2.trans s3)) (.cons (.lst (SqL.of (by rw [upd_ne (Ne.symm hne)]; exact upd_same)) (rs.mono (s2.trans s3))) .nil)))
  ·cases e
theorem pf_call {n : Nat} (h : ∀ t, PA X es t -> PE X e (tCall (spR X.K n mf) [] E t)) (hl : es.length = n) (ha : PAs X es m) (hm : ∀ ρ ds, m ρ = some ds -> ds.length = es.length) : PF X e (mcallF mf m) := (h _ ha).imp fun σ H Q hpat => by
 obtain ⟨F0, H0, F, ρ, d, rl, e, q⟩ := hpat
 unfold mcallF at e
 cases h1 : m ρ with
 | none => rw [h1] at e; cases e
 | some ds =>
  rw [h1] at e
  refine ⟨F0, H0, F, ρ, ds, rl, h1, fun vs F1 H1 x1 r1 => ?_⟩
  dsimp only [Option.bind] at e
  show spR X.K n mf (vs ++ []) H1 Q E
  rw [append_nil]
  refine ⟨by rw [r1.length, hm ρ ds h1, hl], F1, ds, ?_⟩
  split at e
  ·rename_i es' h2
   cases e
   exact ⟨_, x1.fh, r1, h2, fun p xs F2 H2 x2 hp hF hH r2 => q p xs F2 H2 (x1.trans x2) (x1.hh.free hp) hF hH r2⟩
  ·cases e
theorem anil_len (ρ : Ro) (ds : List D) (h : anil ρ = some ds) : ds.length = 0 := by cases h; rfl
theorem acons_len {x : ME} {r : ML} {n : Nat} (hr : ∀ ρ ds, r ρ = some ds -> ds.length = n) (ρ : Ro) (ds : List D) (h : acons x r ρ = some ds) : ds.length = n + 1 := by
 obtain ⟨d, es, _, h2, rfl⟩ := acons_some h
 rw [length_cons, hr ρ es h2]
end
end
section
section
variable {X : Cx} {a b c e : Expr} {ma mb : ME} {pos : Pos}
def bl2 (g : Bool -> Bool -> Bool) : D -> D -> Option D
 | .bl i, .bl j => some (.bl (g i j))
 | _, _ => none
theorem reps_ints {K : W.Frag} {F : Hp} : ∀ ns : List Int, Reps K F (ns.map V.int) (ns.map D.int)
 | [] => .nil
 | n :: ns => .cons (.int n) (reps_ints ns)
theorem sp_Z12 {K : W.Frag} {m : MF} (h : ∀ ns : List Int, ns.length <= 63 -> m [.lst (ns.map .int)] = some (.sh (.bl true))) (H : Hp) (a : Addr) (ns : List Int) (hl : ns.length <= 63) (hS : SqL K H a (ns.map V.int)) (E : XK) :
  spR K 1 m [.ref a] H (fun v _ => v = .bl true) E :=
 ⟨rfl, H, _, _, Same.refl H, .cons (.lst hS (reps_ints ns)) .nil, h ns hl, fun v F' H' _ r => by cases r; rfl⟩
end
end
section
def blkOk (fsc : Scope) (fN : List Str) (sc : Scope) (N : List Str) (src : List (Option Nat)) : Bool :=
 (sc.kind == .function) && sc.names.all (fun y => y.2 != .cell) && sc.names.all (fun y => y.2 != .local || sc.names.lookup y.1 == some .local)
  && sc.names.all (fun y => y.2 != .free || (fsc.names.lookup y.1 == some .cell || fsc.names.lookup y.1 == some .free)) && (src.length == N.length)
  && (List.range src.length).all fun j => match src[j]? with
   | some (some i) => match N[j]? with
    | some x => fN[i]? == some x && sc.names.lookup x == some .free
    | none => false
   | _ => true
theorem blk_of {X : Cx} {sc : Scope} {N : List Str} {src : List (Option Nat)} (fsc : Scope) (fN : List Str) (h1 : X.env.scope = fsc) (h2 : X.N = fN) (h : blkOk fsc fN sc N src = true) : Blk X sc N src := by
 unfold blkOk at h
 simp only [Bool.and_eq_true, all_eq_true, beq_iff_eq, Bool.or_eq_true, bne_iff_ne, ne_eq] at h
 obtain ⟨⟨⟨⟨⟨a1, a2⟩, a3⟩, a4⟩, a5⟩, a6⟩ := h
 refine ⟨a1, a2, fun y hy hk => ?_, fun y hy hk => ?_, fun j i e => ?_, a5⟩
 ·rcases a3 y hy with z | z
  ·exact absurd hk z
  ·exact z
 ·have k : ∀ x, X.env.kindOf x = fsc.names.lookup x := fun x => by rw [<- h1]; rfl
  rw [k]
  rcases a4 y hy with z | z
  ·exact absurd hk z
  ·exact z
 ·have hj : j < src.length := (List.getElem?_eq_some_iff.mp e).1
  have := a6 j (List.mem_range.mpr hj)
  rw [e] at this
  simp only at this
  cases hx : N[j]? with
  | none => rw [hx] at this; cases this
  | some x =>
   rw [hx] at this
   simp only [Bool.and_eq_true, beq_iff_eq] at this
   exact ⟨x, rfl, by rw [h2]; exact this.1, this.2⟩
end
section
theorem pf_sl {X : Cx} {a : Expr} {ml : ML} {lo hi : Option Expr} {l h : MO} {p2 pos : Pos} (ha : PB X a ml) (hl : POs X lo l) (hh : POs X hi h) : PF X (.Subscript a (.Slice lo hi none p2) pos) (mcut ml l h) := pf_cut ha hl hh (pe_slice sl_list ha hl hh)
end
section
def zipE (f : D -> D -> Option Bool) : List D -> List D -> Option Bool
 | d :: ds, e :: es => (f d e).bind fun a => (zipE f ds es).bind fun b => some (a && b)
 | _, _ => some true
def eqF : Nat -> D -> D -> Option Bool
 | 0, _, _ => none
 | n + 1, .lst ds, .lst es => if ds.length = es.length then zipE (eqF n) ds es else some false
 | n + 1, .tup ds, .tup es => (zipE (eqF n) ds es).map fun b => b && ds.length == es.length
 | _ + 1, d, e => eqS d e
theorem zipE_all {f : D -> D -> Option Bool} : ∀ {ds es : List D} {k : Bool}, zipE f ds es = some k -> ∃ g : Nat -> Bool, (∀ j d e, ds[j]? = some d -> es[j]? = some e -> f d e = some (g j)) /\ k = (List.range (min ds.length es.length)).all g
 | [], es, k, h => by
  have h : some true = some k := by simpa [zipE] using h
  cases h
  exact ⟨fun _ => true, by simp, by simp⟩
 | _ :: _, [], k, h => by
  have h : some true = some k := by simpa [zipE] using h
  cases h
  exact ⟨fun _ => true, by simp, by simp⟩
 | d :: ds, e :: es, k, h => by
  unfold zipE at h
  cases h1 : f d e with
  | none => rw [h1] at h; cases h
  | some a =>
   rw [h1] at h
   cases h2 : zipE f ds es with
   | none => rw [h2] at h; cases h
   | some b =>
    rw [h2] at h
    have h : some (a && b) = some k := h
    cases h
    obtain ⟨g, q1, q2⟩ := zipE_all h2
    refine ⟨fun j => match j with | 0 => a | j + 1 => g j, ?_, ?_⟩
    ·intro j d' e' hd he
     cases j with
     | zero => simp at hd he; subst hd he; exact h1
     | succ j => exact q1 j d' e' (by simpa using hd) (by simpa using he)
    ·rw [q2, length_cons, length_cons, Nat.add_min_add_right, range_succ_eq_map, all_cons, all_map]
     rfl
section
variable {X : Cx} {pins : List (Addr × Obj)} {σ : St} {H : Hp} {s : Shared}
theorem Inv.xat (I : Inv X pins σ H s) {a C : Addr} (h : H a = some (.ext (XAt a C))) : XAt a C s.heap := (show ObjOk X.prog X.w H s.heap a (.ext (XAt a C)) from I.hok a _ h).1
theorem zipE_same {f : D -> D -> Option Bool} (hf : ∀ {v : V} {d e : D} {k : Bool}, Rep X.K H v d -> Rep X.K H v e -> f d e = some k -> k = true) : ∀ {vs : List V} {ds es : List D} {k : Bool}, Reps X.K H vs ds -> Reps X.K H vs es -> zipE f ds es = some k -> k = true
 | _, _, _, _, .nil, .nil, h => by simp [zipE] at h; exact h
 | _ :: _, d :: ds, e :: es, k, .cons r1 s1, .cons r2 s2, h => by
  unfold zipE at h
  cases h1 : f d e with
  | none => rw [h1] at h; cases h
  | some a =>
   rw [h1] at h
   cases h2 : zipE f ds es with
   | none => rw [h2] at h; cases h
   | some b =>
    rw [h2] at h
    have h : some (a && b) = some k := h
    cases h
    rw [hf r1 r2 h1, zipE_same hf s1 s2 h2]; rfl
theorem Rep.eqT (I : Inv X pins σ H s) : ∀ (n : Nat) {v : V} {d e : D} {k : Bool}, Rep X.K H v d -> Rep X.K H v e -> eqF n d e = some k -> k = true
 | 0, _, _, _, _, _, _, h => by simp [eqF] at h
 | n + 1, v, d, e, k, r1, r2, h => by
  cases r1 with
  | non => cases r2; simp [eqF, eqS] at h; exact h
  | bl b => cases r2; simp [eqF, eqS] at h; exact h
  | int b => cases r2; simp [eqF, eqS] at h; exact h
  | str b => cases r2; simp [eqF, eqS] at h; exact h
  | lst sq rs =>
   cases r2 with
   | lst sq2 rs2 =>
    have e := I.list_inj sq sq2
    subst e
    simp only [eqF] at h
    split at h
    ·exact zipE_same (fun a b c => Rep.eqT I n a b c) rs rs2 h
    ·rename_i hl; exact absurd (rs.length.symm.trans rs2.length) hl
   | _ => cases h
  | tup sq rs =>
   cases r2 with
   | tup sq2 rs2 =>
    have e := I.tuple_inj sq sq2
    subst e
    simp only [eqF] at h
    cases hz : zipE (eqF n) _ _ with
    | none => rw [hz] at h; cases h
    | some kk =>
     rw [hz] at h
     have h := Option.some.inj h
     rw [<- h, zipE_same (fun a b c => Rep.eqT I n a b c) rs rs2 hz, rs.length.symm.trans rs2.length]
     simp
   | _ => cases h
  | _ => cases h
open PySem.SeqAt in
theorem eqS_at {K : W.Frag} {H : Hp} {A : Around} {s : Shared} {x y : V} {v u : Value} {d e : D} {k : Bool} (r1 : Rep K H x d) (r2 : Rep K H y e) (q1 : RelV x v) (q2 : RelV y u) (h : eqS d e = some k) : EqAt A s v u k /\ RcAt A s v u k /\ RcNeAt A s v u (!k) := by
 obtain ⟨k', hk'⟩ := eqS_sym d e k h
 rw [eqS_l h r1] at q1
 rw [eqS_l hk' r2] at q2
 clear r1 r2 hk'
 cases d with
 | non =>
  cases q1
  cases e with
  | non => cases q2; cases h; exact ⟨EqAt.same _, .none_none, .none_none⟩
  | bl b => cases q2; cases h; exact ⟨.none_bool _, .none_bool _, .none_bool _⟩
  | int b => obtain ⟨t, rfl⟩ := q2; cases h; exact ⟨.none_int _ _, .none_int _ _, .none_int _ _⟩
  | str b => obtain ⟨t, rfl⟩ := q2; cases h; exact ⟨.none_str _ _, .none_str _ _, .none_str _ _⟩
  | _ => cases h
 | bl i =>
  cases q1
  cases e with
  | non => cases q2; cases h; exact ⟨.bool_none _, .bool_none _, .bool_none _⟩
  | bl b => cases q2; cases h; exact ⟨.bool_bool _ _, .bool_bool _ _, .bool_bool _ _⟩
  | str b => obtain ⟨t, rfl⟩ := q2; cases h; exact ⟨.bool_str _ _ _, .bool_str _ _ _, .bool_str _ _ _⟩
  | _ => cases h
 | int i =>
  obtain ⟨t0, rfl⟩ := q1
  cases e with
  | non => cases q2; cases h; exact ⟨.int_none _ _, .int_none _ _, .int_none _ _⟩
  | int b => obtain ⟨t, rfl⟩ := q2; cases h; exact ⟨.int_int _ _ _ _, .int_int _ _ _ _, .int_int _ _ _ _⟩
  | str b => obtain ⟨t, rfl⟩ := q2; cases h; exact ⟨.int_str _ _ _ _, .int_str _ _ _ _, .int_str _ _ _ _⟩
  | _ => cases h
 | str i =>
  obtain ⟨t0, rfl⟩ := q1
  cases e with
  | non => cases q2; cases h; exact ⟨.str_none _ _, .str_none _ _, .str_none _ _⟩
  | bl b => cases q2; cases h; exact ⟨.str_bool _ _ _, .str_bool _ _ _, .str_bool _ _ _⟩
  | int b => obtain ⟨t, rfl⟩ := q2; cases h; exact ⟨.str_int _ _ _ _, .str_int _ _ _ _, .str_int _ _ _ _⟩
  | str b => obtain ⟨t, rfl⟩ := q2; cases h; exact ⟨.str_str _ _ _ _, .str_str _ _ _ _, .str_str _ _ _ _⟩
  | _ => cases h
 | _ => cases h
theorem eqF_inv {n : Nat} {d e : D} {k : Bool} (h : eqF (n + 1) d e = some k) : eqS d e = some k \/ (∃ ds es, d = .lst ds /\ e = .lst es /\ (if ds.length = es.length then zipE (eqF n) ds es else some false) = some k) \/ ∃ ds es kk, d = .tup ds /\ e = .tup es /\ zipE (eqF n) ds es = some kk /\ (kk && ds.length == es.length) = k := by
 cases d with
 | lst ds =>
  cases e with
  | lst es => exact .inr (.inl ⟨ds, es, rfl, rfl, h⟩)
  | _ => exact .inl h
 | tup ds =>
  cases e with
  | tup es =>
   have h : ((zipE (eqF n) ds es).map fun b => b && ds.length == es.length) = some k := h
   cases hz : zipE (eqF n) ds es with
   | none => rw [hz] at h; cases h
   | some kk => rw [hz] at h; exact .inr (.inr ⟨ds, es, kk, rfl, rfl, hz, Option.some.inj h⟩)
  | _ => exact .inl h
 | _ => exact .inl h
theorem items_at {K : W.Frag} {H : Hp} {A : Around} {s : Shared} {n : Nat} {xs ys : List V} {ds es : List D} {its its2 : List Value} {g : Nat -> Bool} (ih : ∀ {x y : V} {v u : Value} {d e : D} {k : Bool}, Rep K H x d -> Rep K H y e -> RelV x v -> RelV y u -> eqF n d e = some k -> PySem.SeqAt.EqAt A s v u k) (rs : Reps K H xs ds) (rs2 : Reps K H ys es) (vr : Vals xs its) (vr2 : Vals ys its2)
  (g1 : ∀ (j : Nat) d e, ds[j]? = some d -> es[j]? = some e -> eqF n d e = some (g j)) (j : Nat) (h1 : j < its.toArray.size) (h2 : j < its2.toArray.size) : PySem.SeqAt.EqAt A s its.toArray[j] its2.toArray[j] (g j) := by
 have z1 : its.length = ds.length := by rw [<- vr.length, rs.length]
 have z2 : its2.length = es.length := by rw [<- vr2.length, rs2.length]
 simp only [size_toArray] at h1 h2
 obtain ⟨d', hd'⟩ : ∃ d', ds[j]? = some d' := ⟨_, getElem?_eq_getElem (z1 ▸ h1)⟩
 obtain ⟨e', he'⟩ : ∃ e', es[j]? = some e' := ⟨_, getElem?_eq_getElem (z2 ▸ h2)⟩
 obtain ⟨v', hv', rv'⟩ := rs.get hd'
 obtain ⟨u', hu', ru'⟩ := rs2.get he'
 obtain ⟨p, hp, rp⟩ := vr.get hv'
 obtain ⟨p2, hp2, rp2⟩ := vr2.get hu'
 have e1 : its.toArray[j] = p := by
  rw [getElem?_eq_getElem h1] at hp
  simpa using hp
 have e2 : its2.toArray[j] = p2 := by
  rw [getElem?_eq_getElem h2] at hp2
  simpa using hp2
 rw [e1, e2]
 exact ih rv' ru' rp rp2 (g1 j d' e' hd' he')
open PySem.SeqAt in
theorem eq_at (I : Inv X pins σ H s) : ∀ (n : Nat) {A : Around} {x y : V} {v u : Value} {d e : D} {k : Bool}, A.units + n < cLine -> Rep X.K H x d -> Rep X.K H y e -> RelV x v -> RelV y u -> eqF n d e = some k -> EqAt A s v u k /\ RcAt A s v u k /\ RcNeAt A s v u (!k)
 | 0, A, x, y, v, u, d, e, k, hu, r1, r2, q1, q2, h => by simp [eqF] at h
 | n + 1, A, x, y, v, u, d, e, k, hu, r1, r2, q1, q2, h => by
  have hu0 : A.units < cLine := by omega
  have hu1 : A.in1.units + n < cLine := by show A.units + 1 + n < cLine; omega
  rcases eqF_inv h with h1 | ⟨ds, es, rfl, rfl, h1⟩ | ⟨ds, es, kk, rfl, rfl, hz, hk⟩
  ·exact eqS_at r1 r2 q1 q2 h1
  ·obtain ⟨a, xs, rfl, sq, rs⟩ := r1.l'
   obtain ⟨b, ys, rfl, sq2, rs2⟩ := r2.l'
   cases q1; cases q2
   obtain ⟨its, vr, ⟨o, m, ho, hc, _, hd⟩, _⟩ := I.list sq
   obtain ⟨its2, vr2, ⟨o2, m2, ho2, hc2, _, hd2⟩, _⟩ := I.list sq2
   have L1 : s.heap.IsList a its.toArray := ⟨o, ho, hc, m, hd⟩
   have L2 : s.heap.IsList b its2.toArray := ⟨o2, ho2, hc2, m2, hd2⟩
   clear ho hc hd ho2 hc2 hd2
   have z1 : its.length = ds.length := by rw [<- vr.length, rs.length]
   have z2 : its2.length = es.length := by rw [<- vr2.length, rs2.length]
   have main : RcAt A s (.ref a) (.ref b) k /\ RcNeAt A s (.ref a) (.ref b) (!k) := by
    by_cases hl : ds.length = es.length
    ·rw [if_pos hl] at h1
     obtain ⟨g, g1, g2⟩ := zipE_all h1
     have he := items_at (fun a b c d e => (eq_at I n hu1 a b c d e).1) rs rs2 vr vr2 g1
     have hz : its.toArray.size = its2.toArray.size := by simp only [size_toArray]; rw [z1, z2, hl]
     have hk : k = (List.range its.toArray.size).all g := by
      rw [g2]; simp only [size_toArray]; rw [z1, hl, Nat.min_self]
     rw [hk]
     exact ⟨.lists L1 L2 hz hu0 he, .lists L1 L2 hz hu0 he⟩
    ·rw [if_neg hl] at h1
     cases h1
     have hz : (its.toArray.size != its2.toArray.size) = true := by simp only [size_toArray]; rw [z1, z2]; exact bne_iff_ne.mpr hl
     exact ⟨.lists_lengths L1 L2 hz hu0, .lists_lengths L1 L2 hz hu0⟩
   refine ⟨?_, main⟩
   by_cases hab : a = b
   ·subst hab
    rw [Rep.eqT I (n + 1) (.lst sq rs) (.lst sq2 rs2) h]
    exact EqAt.same _
   ·exact .of_refs hab main.1
  ·obtain ⟨a, xs, rfl, sq, rs⟩ := r1.t'
   obtain ⟨b, ys, rfl, sq2, rs2⟩ := r2.t'
   cases q1; cases q2
   obtain ⟨its, vr, ⟨o, ho, hc, m, hd⟩, _⟩ := I.tuple sq
   obtain ⟨its2, vr2, ⟨o2, ho2, hc2, m2, hd2⟩, _⟩ := I.tuple sq2
   have L1 : s.heap.IsTuple a its.toArray := ⟨o, ho, hc, m, hd⟩
   have L2 : s.heap.IsTuple b its2.toArray := ⟨o2, ho2, hc2, m2, hd2⟩
   clear ho hc hd ho2 hc2 hd2
   have z1 : its.length = ds.length := by rw [<- vr.length, rs.length]
   have z2 : its2.length = es.length := by rw [<- vr2.length, rs2.length]
   have main : RcAt A s (.ref a) (.ref b) k /\ RcNeAt A s (.ref a) (.ref b) (!k) := by
    obtain ⟨g, g1, g2⟩ := zipE_all hz
    have he := items_at (fun a b c d e => (eq_at I n hu1 a b c d e).1) rs rs2 vr vr2 g1
    have hk : k = ((List.range (min its.toArray.size its2.toArray.size)).all g && its.toArray.size == its2.toArray.size) := by
     rw [<- hk, g2]; simp only [size_toArray]; rw [z1, z2]
    rw [hk]
    exact ⟨.tuples L1 L2 hu0 he, .tuples L1 L2 hu0 he⟩
   refine ⟨?_, main⟩
   by_cases hab : a = b
   ·subst hab
    rw [Rep.eqT I (n + 1) (.tup sq rs) (.tup sq2 rs2) h]
    exact EqAt.same _
   ·exact .of_refs hab main.1
end
end
section
section
variable {X : Cx} {a b c e : Expr} {ma mb : ME} {la lb : ML} {pos : Pos}
def rEqF (K : W.Frag) (neg : Bool) : R2 := fun x y H Q => ∃ d e k, Rep K H x d /\ Rep K H y e /\ eqF 8 d e = some k /\ Q (.bl (if neg then !k else k)) H
theorem op_eqF (hu : X.A.units + 64 < cLine) : OpR X (compareOp .Eq) (rEqF X.K false) := by
 intro pins s σ H x y v u Q I rx ry h
 obtain ⟨d, e, k, r1, r2, h, q⟩ := h
 exact (eq_at I 8 (by omega) r1 r2 rx ry h).2.1 X.prog X.w _ _ ⟨.bl k, H, I, rfl, q⟩
theorem op_neF (hu : X.A.units + 64 < cLine) : OpR X (compareOp .NotEq) (rEqF X.K true) := by
 intro pins s σ H x y v u Q I rx ry h
 obtain ⟨d, e, k, r1, r2, h, q⟩ := h
 exact (eq_at I 8 (by omega) r1 r2 rx ry h).2.2 X.prog X.w _ _ ⟨.bl (!k), H, I, rfl, q⟩
def eqFD (neg : Bool) (d e : D) : Option D := (eqF 8 d e).map fun k => .bl (if neg then !k else k)
@[irreducible] def meqB (neg : Bool) (x y : ML) : ME := fun ρ => (x ρ).bind fun ds => (y ρ).bind fun es => eqFD neg (.lst ds) (.lst es)
theorem eqB_d {neg : Bool} {σ : St} {H : Hp} {Q : VK} (h : TD X.K (meqB neg la lb) σ H Q) : tOp (rEqF X.K neg) (TB X.K la) (TB X.K lb) σ H Q := by
 obtain ⟨F0, H0, F, ρ, g, rl, e, q⟩ := h
 unfold meqB at e
 cases h1 : la ρ with
 | none => rw [h1] at e; cases e
 | some ds =>
  cases h2 : lb ρ with
  | none => rw [h1, h2] at e; cases e
  | some es =>
   rw [h1, h2] at e
   have e : eqFD neg (.lst ds) (.lst es) = some g := e
   refine ⟨F0, H0, F, ρ, ds, rl, h1, fun p xs F1 H1 x1 s1 r1 => ⟨F0, H0, F1, ρ, es, rl.go x1, h2, fun p2 xs2 F2 H2 x2 s2 r2 => ?_⟩⟩
   unfold eqFD at e
   cases hk : eqF 8 (.lst ds) (.lst es) with
   | none => rw [hk] at e; cases e
   | some k =>
    rw [hk] at e; cases e
    exact ⟨_, _, k, .lst (x2.hh.seq s1) (r1.mono (x2.ff.trans x2.fh)), .lst s2 (r2.mono x2.fh), hk, q _ F2 H2 (x1.trans x2) (.bl _)⟩
theorem pd_eqB {op : CmpOp} {neg : Bool} (ho : OpR X (compareOp op) (rEqF X.K neg)) (ha : PB X a la) (hb : PB X b lb) (hm : behindInMarks op b = false) : PD X (.Compare a [op] [b] pos) (meqB neg la lb) := (pe_cmpR ho ha hb hm).imp fun _ _ _ h => eqB_d h
theorem pc_eqB {op : CmpOp} {neg : Bool} (ho : OpR X (compareOp op) (rEqF X.K neg)) (ha : PB X a la) (hb : PB X b lb) (hm : behindInMarks op b = false) : PC' X (.Compare a [op] [b] pos) (mtest (meqB neg la lb)) := (pt_cmpR ho ha hb hm).imp fun σ H Q hpat => by
 obtain ⟨F0, H0, F, ρ, g, rl, e, q⟩ := hpat
 unfold mtest at e
 split at e
 ·rename_i k hk
  cases e
  refine eqB_d ⟨F0, H0, F, ρ, .bl g, rl, hk, fun v F' H' x r => ?_⟩
  cases r
  exact ⟨_, rfl, q F' H' x⟩
 ·cases e
end
end
section
theorem filterMap_get (its : List Value) : ∀ js : List Nat, (∀ j ∈ js, j < its.length) -> js.filterMap (its.toArray[·]?) = js.map fun j => its.getD j Value.none
 | [], _ => rfl
 | j :: js, h => by
  have hj := h j (by simp)
  have e : its.toArray[j]? = some (its.getD j Value.none) := by simp [getD_eq_getElem?_getD, hj]
  rw [filterMap_cons, e, map_cons, filterMap_get its js fun k hk => h k (by simp [hk])]
theorem slicePick_rev (its : List Value) : slicePick its.toArray none none (some (-1)) = its.reverse.toArray := by
 have hb : sliceBounds none none (some (-1)) its.toArray.size = ((its.length : Int) - 1, -1, -1) := by
  simp [sliceBounds]
 have hr : sliceRange ((its.length : Int) - 1) (-1) (-1) = (List.range its.length).map fun (k : Nat) => ((its.length : Int) - 1 + -1 * (k : Int)).toNat := by
  unfold sliceRange
  have : (if (-1 : Int) > 0 then (if (its.length : Int) - 1 < -1 then (-1 - ((its.length : Int) - 1) + -1 - 1) / -1 else 0) else (if (its.length : Int) - 1 > -1 then ((its.length : Int) - 1 - -1 - -1 - 1) / (- -1) else 0)) = (its.length : Int) := by
   rw [if_neg (by decide)]
   split
   ·rw [show (- -1 : Int) = 1 by decide, Int.ediv_one]; omega
   ·omega
  simp only [this, Int.toNat_natCast]
 unfold slicePick
 rw [hb]
 show ((sliceRange ((its.length : Int) - 1) (-1) (-1)).filterMap (its.toArray[·]?)).toArray = _
 rw [hr, filterMap_get]
 ·congr 1
  apply ext_getElem
  ·simp
  ·intro i h1 h2
   simp only [length_map, length_range] at h1
   simp only [getElem_map, getElem_range, getElem_reverse]
   have e : ((its.length : Int) - 1 + -1 * (i : Int)).toNat = its.length - 1 - i := by omega
   rw [e]
   simp [getD_eq_getElem?_getD, show its.length - 1 - i < its.length by omega]
 ·intro j hj
  simp only [mem_map, mem_range] at hj
  obtain ⟨k, hk, rfl⟩ := hj
  omega
section
variable {X : Cx} {a b c e k : Expr} {te : TE} {ma mb : ME} {la lb : ML} {pos p2 : Pos} {st : Stmt}
def tRev (K : W.Frag) (te : TE) (tk : TO) : TE := fun σ H Q => te σ H fun x H1 => tk σ H1 fun o H2 => o = some (-1) /\ ∃ a xs, x = .ref a /\ SqL K H2 a xs /\ ∀ p, H2 p = none -> Q (.ref p) (upd H2 p (.lst xs.reverse))
theorem pe_rev {ko : Option Expr} {tk : TO} (he : PE X e te) (hk : PO X ko tk) (hsub : ∀ v i : Value, subscripted (.Slice none none ko p2) false v i = operate [v, i] (getItem v i)) : PE X (.Subscript e (.Slice none none ko p2) pos) (tRev X.K te tk) := by
 intro pins s σ H Q I h
 refine Subscript_ (thn (he pins s σ H _ I h) fun v s1 hpat => ?_)
 obtain ⟨x, H1, I1, r1, q1⟩ := hpat
 refine wpAny_Slice ?_
 rw [evalPart_none]
 refine wpAny_pure (wpAny_pure (thn (hk pins s1 σ H1 _ I1 q1) fun vk s3 hpat => ?_))
 obtain ⟨o, H3, I3, pk, eo, a, xs, ex, hx, q⟩ := hpat
 subst eo ex
 cases r1
 have I4 : Inv X pins σ H3 { s3 with heap := s3.heap.push { cls := .type "slice", data := .fields #[.none, .none, vk] } } := I3.kept (t' := s3.toks) fun b ob q => Heap.get?_push_of_some _ q
 obtain ⟨its, r, ht, hz⟩ := I4.list hx
 have hlen := r.length
 show wpAny (model X.prog X.w) X.A (subscriptTail e (.Slice none none ko p2) (.ref a) (.ref s3.heap.objs.size)) (EP X pins σ Q) X.xe { s3 with heap := s3.heap.push { cls := .type "slice", data := .fields #[.none, .none, vk] } }
 refine tail_any (ops := [.ref a, .ref s3.heap.objs.size]) ht.isList.typeIs slot_list_getitem.lookup ?_ (hsub _ _)
 refine wpAny_getItem_list_slice ht.isList (Heap.IsSliceOf.new ..) .none .none pk (by simp) ?_ (by rw [size_toArray] <;> omega)
 rw [slicePick_rev]
 refine ⟨.ref _, _, I4.laid (t' := s3.toks) (o := .lst xs.reverse) (fun b ob q => Heap.get?_push_of_some _ q) (Nat.le_refl _) ?_, rfl, q _ (I4.hok.fresh (Nat.le_refl _))⟩
 refine ⟨by rw [length_reverse]; exact hz, _, 0, ?_, Heap.get?_push_size _ rfl⟩
 exact Vals.reverse r
@[irreducible] def mrev (m : ML) (k : MO) : ML := fun ρ => (m ρ).bind fun ds => match k ρ with | some (some (-1)) => some ds.reverse | _ => none
theorem pf_rev {ko : Option Expr} {mk : MO} (ha : PB X a la) (hk : POs X ko mk) (hsub : ∀ v i : Value, subscripted (.Slice none none ko p2) false v i = operate [v, i] (getItem v i) := by intro _ _; with_unfolding_all rfl) : PF X (.Subscript a (.Slice none none ko p2) pos) (mrev la mk) := (pe_rev ha hk hsub).imp fun σ H Q hpat => by
 obtain ⟨F0, H0, F, ρ, g, rl, e, q⟩ := hpat
 unfold mrev at e
 cases h1 : la ρ with
 | none => rw [h1] at e; cases e
 | some ds =>
  rw [h1] at e
  dsimp only [Option.bind] at e
  split at e
  ·rename_i h2
   cases e
   refine ⟨F0, H0, F, ρ, ds, rl, h1, fun p xs F1 H1 x1 s1 r1 => ⟨F0, H0, F1, ρ, _, rl.go x1, h2, fun F2 H2 x2 => ⟨rfl, p, xs, rfl, x2.hh.seq s1, fun w hw => ?_⟩⟩⟩
   have xx := x1.trans x2
   exact q w _ F2 _ (xx.trans (Ext.own x2.fh hw)) (xx.hh.free hw) (x2.fh.free hw) upd_same (r1.mono x2.ff).reverse
  ·cases e
@[irreducible] def msetix2 (i : Nat) (ix iy v : ME) : MS := fun ρ => (v ρ).bind fun d => match d with
 | .tup [d1, d2] => match ρ[i]? with
  | some (some (.own ds)) => (ix ρ).bind fun x => match x with
   | .int k => (ixN ds.length k).bind fun j => (iy (ρ.set i (some (.own (ds.set j d1))))).bind fun y => match y with
    | .int k2 => (ixN ds.length k2).map fun j2 => .nx (ρ.set i (some (.own ((ds.set j d1).set j2 d2))))
    | _ => none
   | _ => none
  | _ => none
 | _ => none
theorem psd_setix2 {i : Nat} {mx my : ME} (hE : PS X st (tAsg (TD X.K mb) (gTup X.K 2 (gCons (gSub (tVar i) (TD X.K mx) rSetL) (gCons (gSub (tVar i) (TD X.K my) rSetL) gNil))))) : PSd X st (msetix2 i mx my mb) := hE.imp fun D σ H hpat => by
 obtain ⟨F0, H0, F, ρ, o, rl, e, ok⟩ := hpat
 unfold msetix2 at e
 cases h1 : mb ρ with
 | none => rw [h1] at e; cases e
 | some d =>
  rw [h1] at e
  refine ⟨F0, H0, F, ρ, d, rl, h1, fun y F1 H1 x1 r1 => ?_⟩
  dsimp only [Option.bind] at e
  split at e
  ·rename_i d1 d2
   cases r1 with
   | tup sq rs =>
    rename_i ta txs
    cases rs with
    | @cons v1 _ vs1 _ rv1 rs =>
     cases rs with
     | @cons v2 _ vs2 _ rv2 rs =>
      cases rs
      refine ⟨ta, _, rfl, x1.fh.seqT sq, rfl, ?_⟩
      split at e
      ·rename_i ds h2
       obtain ⟨p, xs, e1, e2, e3, e4, e5⟩ := (rl.go x1).own i _ h2
       cases h3 : mx ρ with
       | none => rw [h3] at e; cases e
       | some k' =>
        rw [h3] at e
        refine ⟨_, _, rfl, _, e1, F0, H0, F1, ρ, k', rl.go x1, h3, fun z F2 H2 x2 r2 => ?_⟩
        cases r2 <;> first | (cases e; done) | skip
        rename_i k
        dsimp only [Option.bind] at e
        cases h4 : ixN ds.length k with
        | none => rw [h4] at e; cases e
        | some j =>
         rw [h4] at e
         dsimp only [Option.bind] at e
         have rl2 := ((rl.go x1).go x2).write h2 e1 (Reps.set (rv1.mono x2.ff) j (e4.mono x2.ff))
         refine ⟨p, xs, k, j, rfl, rfl, x2.hh _ _ e3, by rw [e4.length]; exact h4, ?_⟩
         have hi : i < ρ.length := by
          rcases Nat.lt_or_ge i ρ.length with q | q
          ·exact q
          ·rw [getElem?_eq_none q] at h2; cases h2
         have h2' : (ρ.set i (some (S.own (ds.set j d1))))[i]? = some (some (.own (ds.set j d1))) := by rw [getElem?_set_self hi]
         obtain ⟨p', xs', e1', e2', e3', e4', e5'⟩ := rl2.own i _ h2'
         cases h5 : my (ρ.set i (some (S.own (ds.set j d1)))) with
         | none => rw [h5] at e; cases e
         | some y' =>
          rw [h5] at e
          refine ⟨_, _, rfl, _, e1', F0, H0, F2, _, y', rl2, h5, fun z2 F3 H3 x3 r3 => ?_⟩
          cases r3 <;> first | (cases e; done) | skip
          rename_i k2
          have e : (ixN ds.length k2).map (fun j2 => Out.nx (ρ.set i (some (.own ((ds.set j d1).set j2 d2))))) = some o := e
          cases h6 : ixN ds.length k2 with
          | none => rw [h6] at e; cases e
          | some j2 =>
           rw [h6] at e; cases e
           have rl3 := (rl2.go x3).write h2' e1' (Reps.set (rv2.mono (x2.ff.trans x3.ff)) j2 (e4'.mono x3.ff))
           rw [set_set] at rl3
           exact ⟨p', xs', k2, j2, rfl, rfl, x3.hh _ _ e3', by rw [e4'.length, length_set]; exact h6, rfl, ok F3 _ σ rl3 ((x1.ff.trans x2.ff).trans x3.ff)⟩
      ·cases e
  ·cases e
end
end
section
section
variable {X : Cx} {a b c e : Expr} {ma mb : ME} {la lb : ML} {pos : Pos} {st : Stmt}
end
end
section
section
variable {K : W.Frag} {F0 H0 F H : Hp} {σ : St} {ρ : Ro}
end
end
section
section
variable {X : Cx} {a b c e : Expr} {ma mb mz : ME} {la lb : ML} {pos : Pos}
@[irreducible] def mchain (f g : D -> D -> Option D) (x y z : ME) : ME := fun ρ => match x ρ, y ρ with
 | some d, some e => (match f d e with | some (.bl true) => (match z ρ with | some h => g e h | none => none) | some (.bl false) => some (.bl false) | _ => none)
 | _, _ => none
theorem chain_d {r r' : R2} {f g : D -> D -> Option D} (hf : OpD X.K r f) (hg : OpD X.K r' g) {σ : St} {H : Hp} {Q : VK} (h : TD X.K (mchain f g ma mb mz) σ H Q) : tChain r r' (TD X.K ma) (TD X.K mb) (TD X.K mz) σ H Q := by
 obtain ⟨F0, H0, F, ρ, w, rl, e, q⟩ := h
 unfold mchain at e
 cases h1 : ma ρ with
 | none => rw [h1] at e; cases e
 | some d =>
  cases h2 : mb ρ with
  | none => rw [h1, h2] at e; cases e
  | some d2 =>
   rw [h1, h2] at e
   refine ⟨F0, H0, F, ρ, d, rl, h1, fun x F1 H1 x1 r1 => ⟨F0, H0, F1, ρ, d2, rl.go x1, h2, fun y F2 H2 x2 r2 => ?_⟩⟩
   cases h3 : f d d2 with
   | none => simp only [h3] at e; cases e
   | some k =>
    refine hf F2 H2 x y d d2 k _ x2.fh (r1.mono x2.ff) r2 h3 fun v F3 H3 x3 r3 => ?_
    simp only [h3] at e
    cases r3 with
    | bl k =>
     cases k with
     | false =>
      cases e
      exact ⟨false, rfl, by rw [if_neg (by simp)]; exact q _ F3 H3 ((x1.trans x2).trans x3) (.bl _)⟩
     | true =>
      refine ⟨true, rfl, ?_⟩
      rw [if_pos rfl]
      cases h4 : mz ρ with
      | none => simp only [h4] at e; cases e
      | some d4 =>
       simp only [h4] at e
       refine ⟨F0, H0, F3, ρ, d4, ((rl.go x1).go x2).go x3, h4, fun w' F4 H4 x4 r4 => ?_⟩
       exact hg F4 H4 y w' d2 d4 w _ x4.fh (r2.mono (x3.ff.trans x4.ff)) r4 e fun v' F5 H5 x5 => q v' F5 H5 ((((x1.trans x2).trans x3).trans x4).trans x5)
    | _ => cases e
theorem pc_chain {op op' : CmpOp} {r r' : R2} {f g : D -> D -> Option D} (ho : OpR X (compareOp op) r) (hf : OpD X.K r f) (ho' : OpR X (compareOp op') r') (hg : OpD X.K r' g) (ha : PD X a ma) (hb : PD X b mb) (hc : PD X c mz)
  (hm : lastMarks [op, op'] [b, c] = false := by with_unfolding_all rfl) : PC' X (.Compare a [op, op'] [b, c] pos) (mtest (mchain f g ma mb mz)) := (pt_chain ho ho' ha hb hc hm).imp fun σ H Q hpat => by
 obtain ⟨F0, H0, F, ρ, w, rl, e, q⟩ := hpat
 unfold mtest at e
 split at e
 ·rename_i k hk
  cases e
  refine chain_d hf hg ⟨F0, H0, F, ρ, .bl w, rl, hk, fun v F' H' x r => ?_⟩
  cases r
  exact ⟨_, rfl, q F' H' x⟩
 ·cases e
def intsD : List D -> Option (List Int)
 | [] => some []
 | .int i :: r => match intsD r with | some ns => some (i :: ns) | none => none
 | _ => none
theorem intsD_reps {K : W.Frag} {F : Hp} : ∀ {vs : List V} {ds : List D} {ns : List Int}, Reps K F vs ds -> intsD ds = some ns -> vs = ns.map V.int
 | _, _, _, .nil, h => by cases h; rfl
 | _, _, _, .cons (d := d) (ds := ds) r t, h => by
  cases r with
  | int i =>
   unfold intsD at h
   cases h1 : intsD ds with
   | none => simp only [h1] at h; cases h
   | some ns => simp only [h1] at h; cases h; rw [intsD_reps t h1]; rfl
  | _ => cases h
theorem intsD_map : ∀ ns : List Int, intsD (ns.map D.int) = some ns
 | [] => rfl
 | n :: ns => by show (match intsD (ns.map D.int) with | some ns => some (n :: ns) | none => none) = _; rw [intsD_map ns]
def tabVs : List (Str × Str) -> List DictEntry -> Prop
 | [], [] => True
 | (k, v) :: r, e :: es => (∃ t, e.key = .str k t) /\ (∃ t, e.val = .str v t) /\ tabVs r es
 | _, _ => False
structure KTab (w : World) (K : W.Frag) (a : Addr) (tab : List (Str × Str)) : Prop where
 ns : (a == sysModules) = false
 nd : (tab.map (·.1)).Nodup
 obj : ∃ es ep, K.lookup a = some ⟨.type "dict", none, .dict es ep, #[]⟩ /\ tabVs tab es.toList /\ ∀ e ∈ es.toList, ∀ k t, e.key = .str k t -> e.hash = hashStr w k
theorem tab_pairs {P : Program} {w : World} : ∀ {tab : List (Str × Str)} {es : List DictEntry}, tabVs tab es -> ∃ kvs : List (Key × Value), Pairs (mixKind P w) es kvs /\ kvs.map (·.1) = tab.map (fun p => Sum.inr p.1) /\ ∀ k, (∀ v, tab.lookup k = some v -> ∃ t, valueAt kvs (Sum.inr k) = some (.str v t)) /\ (tab.lookup k = none -> valueAt kvs (Sum.inr k) = none)
 | [], [], _ => ⟨[], .nil, rfl, fun k => ⟨fun v h => by simp at h, fun _ => rfl⟩⟩
 | [], _ :: _, h => h.elim
 | _ :: _, [], h => h.elim
 | (k, v) :: r, e :: es, ⟨⟨t1, h1⟩, ⟨t2, h2⟩, h3⟩ => by
  obtain ⟨kvs, a1, a2, a3⟩ := tab_pairs (P := P) (w := w) h3
  refine ⟨(Sum.inr k, .str v t2) :: kvs, .cons (by rw [h1]; exact keyIs_str k t1) h2 a1, by rw [map_cons, map_cons, a2], fun k' => ?_⟩
  unfold valueAt
  by_cases hk : k' = k
  ·subst hk
   refine ⟨fun v' h => ?_, fun h => ?_⟩
   ·rw [lookup_cons_self] at h; cases h
    exact ⟨t2, by simp⟩
   ·rw [lookup_cons_self] at h; cases h
  ·have hb : (k' == k) = false := by simpa using hk
   have hb2 : ¬ ((Sum.inr k : Key) = Sum.inr k') := fun z => hk (Sum.inr.inj z).symm
   obtain ⟨c1, c2⟩ := a3 k'
   refine ⟨fun v' h => ?_, fun h => ?_⟩
   ·rw [lookup_cons, hb] at h
    obtain ⟨t, ht⟩ := c1 v' h
    unfold valueAt at ht
    exact ⟨t, by simpa [hb2] using ht⟩
   ·rw [lookup_cons, hb] at h
    have := c2 h
    unfold valueAt at this
    simpa [hb2] using this
theorem KTab.dict {t : Addr} {tab : List (Str × Str)} {pins : List (Addr × Obj)} {σ : St} {H : Hp} {s : Shared} (T : KTab X.w X.K t tab) (I : Inv X pins σ H s) : ∃ kvs : List (Key × Value), s.heap.DictOf (mixKind X.prog X.w) t kvs /\ ∀ k, (∀ v, tab.lookup k = some v -> ∃ t, valueAt kvs (Sum.inr k) = some (.str v t)) /\ (tab.lookup k = none -> valueAt kvs (Sum.inr k) = none) := by
 obtain ⟨es, ep, h1, h2, h3⟩ := T.obj
 obtain ⟨kvs, a1, a2, a3⟩ := tab_pairs (P := X.prog) (w := X.w) h2
 refine ⟨kvs, ⟨_, es, ep, I.kIn t _ h1, ⟨rfl, rfl, rfl⟩, rfl, fun e he => ?_, a1, ?_⟩, a3⟩
 ·have key : ∀ {tab : List (Str × Str)} {es : List DictEntry}, tabVs tab es -> ∀ e ∈ es, ∃ k t, e.key = .str k t := by
   intro tab
   induction tab with
   | nil => intro es h e he; cases es with
    | nil => cases he
    | cons _ _ => exact h.elim
   | cons p r ih =>
    intro es h e he
    cases es with
    | nil => cases he
    | cons e0 es =>
     obtain ⟨⟨t1, g1⟩, _, g3⟩ := h
     rcases List.mem_cons.mp he with z | z
     ·subst z; exact ⟨_, t1, g1⟩
     ·exact ih g3 e z
  obtain ⟨k, tk, hk⟩ := key h2 e (by simpa using he)
  exact ⟨Sum.inr k, by rw [hk]; exact keyIs_str k tk, h3 e (by simpa using he) k tk hk⟩
 ·rw [a2]
  have := T.nd
  rw [show tab.map (fun p => (Sum.inr p.1 : Key)) = (tab.map (·.1)).map Sum.inr by rw [map_map]; rfl]
  exact List.Pairwise.map _ (fun _ _ h z => h (Sum.inr.inj z)) this
end
end
section
section
variable {prog : Program} {w : World} {A : Around} {E : Value -> Shared -> Prop} {s : Shared}
structure ApT (z TO i1 i2 l : Addr) : Prop where
 lz : l ≠ z
 lTO : l ≠ TO
 l1 : l ≠ i1
 l2 : l ≠ i2
end
end
section
section
variable {prog : Program} {w : World} {A : Around} {E : Value -> Shared -> Prop} {s : Shared}
end
section
variable {X : Cx}
end
end
section
section
variable {X : Cx} {a b c e : Expr} {ma mb : ME} {la lb : ML} {pos : Pos}
end
section
variable {K : W.Frag} {F0 H0 F H H' : Hp} {σ : St} {ρ : Ro}
end
section
variable {X : Cx} {a b c e3 : Expr} {ma mb : ME} {la lb : ML} {pos : Pos} {E : XK} {es : List Expr} {mf : MF} {m : ML} {rb : List Stmt} {mx : MS} {cc : MB} {y : D}
end
end
section
abbrev MEm := Ro -> Option (D × Ro)
abbrev MLm := Ro -> Option (List D × Ro)
section
variable {X : Cx} {a b c e : Expr} {ma mb : ME} {na nb : MEm} {pos : Pos} {es : List Expr}
variable {st : Stmt}
end
abbrev MG := Addr -> List D -> List D -> Option (Rt × List D)
end
section
section
variable {K : W.Frag} {F0 H0 F H F' H' : Hp} {σ : St} {ρ : Ro}
end
open Classical in
section
variable {X : Cx} {e : Expr} {pos : Pos} {es : List Expr} {E : XK} {mf : MG} {m : MLm}
end
end
section
section
variable {X : Cx} {a b c e : Expr} {ma mb : ME} {pos : Pos}
end
end
section
section
open PySem.SeqAt
open PySem.AutoSeq1 (wpAny_loadPart')
open PySem.MeetsSeq PySem.MeetsSeq2 PySem.MeetsSeq3
end
section
variable {X : Cx} {pins : List (Addr × Obj)} {σ : St} {H : Hp} {s : Shared}
end
end
section
section
variable {X : Cx} {pins : List (Addr × Obj)} {σ : St}
theorem FpOk.now {H H' : Hp} {b : Addr} (h : FpOk X pins H b) (hn : H' b = none) : FpOk X pins H' b := ⟨hn, h.2⟩
end
end
section
section
variable {X : Cx} {pins : List (Addr × Obj)} {σ : St}
end
end
section
section
variable {prog : Program} {w : World} {A : Around} {E : Value -> Shared -> Prop} {s : Shared}
end
section
variable {X : Cx}
end
end
section
section
variable {X : Cx} {a b : Expr} {pos : Pos}
end
end
section
section
variable {X : Cx} {e : Expr} {pos : Pos} {es : List Expr} {E : XK} {mf : MG} {st : Stmt} {na : MEm}
end
section
variable {X : Cx} {a b : Expr} {pos : Pos}
end
end
section
section
variable {X : Cx} {pins : List (Addr × Obj)} {σ : St}
end
end
section
section
variable {X : Cx} {pins : List (Addr × Obj)} {σ : St}
end
end
section
section
variable {X : Cx} {pins : List (Addr × Obj)} {σ : St}
end
section
variable {X : Cx}
end
end
section
section
variable {X : Cx} {pins : List (Addr × Obj)} {σ : St}
end
end
end L2
namespace L2
open List
open PySem PySem.Spec PyProof.Rows PySem.Builtin PySem.Builtin.Str
section
section
variable {X : Cx} {a b c e o : Expr} {ma mb mo : ME} {pos : Pos}
theorem reps_strs {K : W.Frag} {F : Hp} : ∀ (l : List Str), Reps K F (l.map V.str) (l.map D.str)
 | [] => .nil
 | z :: l => .cons (.str z) (reps_strs l)
end
end
section
section
variable {X : Cx} {a b c e o : Expr} {ma mb mo : ME} {pos : Pos}
end
end
end L2
namespace L2
open List
open PySem PySem.Spec PyProof.Rows
section
section
variable {X : Cx} {a b c e o : Expr} {ma mb mo : ME} {pos : Pos} {st : Stmt}
end
end
section
section
variable {prog : Program} {w : World} {A : Around} {E : Value -> Shared -> Prop} {s : Shared} {l : Addr} {xs : Array (Int × Tok)}
end
section
variable {X : Cx} {a b c e o : Expr} {ma mb mo : ME} {pos : Pos} {st : Stmt}
end
section
variable {X : Cx} {a b c e : Expr} {na nb : MEm} {pos : Pos} {st : Stmt} {es : List Expr} {E : XK} {mf : MF} {m : MLm}
abbrev MBm := Ro -> Option (Bool × Ro)
end
end
section
section
variable {X : Cx} {a b c e : Expr} {na nb : MEm} {pos : Pos} {st : Stmt} {es : List Expr} {m : MLm}
end
section
variable {X : Cx} {pos : Pos}
end
end
section
section
variable {X : Cx} {e : Expr} {na : MEm} {pos : Pos} {st : Stmt} {es : List Expr} {m : ML} {mf : MG} {E : XK}
def NoL (K : W.Frag) : Prop := ∀ p o, List.lookup p K = some o -> o.cls ≠ .type "list"
def noLb : W.Frag -> Bool
 | [] => true
 | (_, o) :: r => (match o.cls with | .type c => c != "list" | _ => true) && noLb r
theorem NoL.of : ∀ {K : W.Frag}, noLb K = true -> NoL K
 | [], _ => fun p o e => by cases e
 | (a, o') :: r, h => fun p o e z => by
  have h : ((match o'.cls with | .type c => c != "list" | _ => true) && noLb r) = true := h
  rw [Bool.and_eq_true] at h
  rw [lookup_cons] at e
  split at e
  ·cases e
   rw [z] at h
   exact absurd h.1 (by decide)
  ·exact NoL.of h.2 p o e z
open Classical in
end
end
section
section
variable {X : Cx}
end
end
section
section
variable {X : Cx} {e : Expr} {pos : Pos}
@[irreducible] def many (m : ML) : ME := fun ρ => match m ρ with | some ds => (match intsD ds with | some ns => some (.bl (ns.any fun i => i != 0)) | none => none) | none => none
end
end
section
section
variable {X : Cx} {e : Expr} {ma : ME} {pos : Pos}
end
end
section
section
variable {X : Cx} {e : Expr} {ma : ME} {pos : Pos}
end
end
section
def IsRev (h : Heap) (a l : Addr) (k : Int) : Prop := ∃ o, h.get? a = some o /\ o.cls = .type "list_reverseiterator" /\ o.data = .fields #[.ref l, rawInt k]
section
variable {prog : Program} {w : World} {A : Around} {E : Value -> Shared -> Prop} {s : Shared}
theorem IsRev.ty {a l : Addr} {k : Int} (h : IsRev s.heap a l k) : s.TypeIs (.ref a) "list_reverseiterator" := by
 obtain ⟨o, e, c, d⟩ := h
 exact ⟨o, e, c⟩
end
section
variable {X : Cx}
end
end
section
section
variable {X : Cx} {a : Expr} {na : MEm} {pos : Pos} {ca : MBm}
end
end
section
section
variable {X : Cx} {a b : Expr} {m : ML} {pos : Pos}
end
end
end L2
namespace L2
open List
open PySem PySem.Spec PyProof.Rows PySem.W PySem.Builtin PySem.Builtin.ObjectAttr PySem.Builtin.Getset_descriptor
section
structure XCls (K : W.Frag) (C : Addr) : Prop where
 ga : findIn K (.ref C) "__getattribute__" = some (some (.builtin "BaseException.__getattribute__"))
 nog : findIn K (.ref C) "__getattr__" = some none
 cl : findIn K (.ref C) "__class__" = some (some (.builtin "object.__class__"))
 ob : mroIn K C (.type "object") = some true
 be : mroIn K C (.type "BaseException") = some true
section
variable {prog : Program} {w : World} {A : Around} {E : Value -> Shared -> Prop} {K : W.Frag} {x C : Addr} {ox : Obj} {h : Heap} {g : Array GenState} {d : Drawn} {t : Nat} {os : OsState}
theorem xc_get {tp : Value} {R : Result -> Shared -> Prop} (X : K.In h) (LT : ∀ M : Model, Looks M h (typeOf (.ref x)) (.ref C)) (hm : mroIn K C (.type "object") = some true)
  (hq : R (.ok (.ret (.ref C))) ⟨h, g, d, t, os⟩) : codeAny (model prog w) A (.call (.builtin "getset_descriptor.__get__") ⟨[.builtin "object.__class__", .ref x, tp], []⟩) R ⟨h, g, d, t, os⟩ := by
 have L0 := LT (model prog w)
 have L1 := looks_mroIn (M := model prog w) X hm
 refine codeAny_call_builtin F.slot_gs_get.plain F.entry_gs_get (F.slot_gs_get.check _ _ _ _ _ _ _ _ F.typeOf_object_class (F.args_gs_get _ _ tp) ?_)
 unfold Builtin.«getset_descriptor.__get__» descrGet
 rw [dga_obj]
 refine wpAny_bind (wpAny_pure ?_)
 unfold descrGetter; unfold descrCheckInstance; unfold descrNameAndClass isInstance
 simp only [KF.owner_class]
 repeat lk
 refine And.intro (Code.quiet_builtin _ (by decide +kernel)) (codeAny_builtin F.entry_object_class ?_)
 unfold Builtin.«object.__class__»; unfold shownTypeOf
 repeat lk
 exact hq
theorem xc_entry {tk : Tok} {Q : PySem.Fin -> Shared -> Prop} (Z : XCls K C) (X : K.In h) (LT : ∀ M : Model, Looks M h (typeOf (.ref x)) (.ref C)) (hq : Q (.done (.ret (.ref C))) ⟨h, g, d, t, os⟩) :
  wpAny (model prog w) A (Builtin.«object.__getattribute__» ⟨[.ref x, .str "__class__" tk], []⟩) Q E ⟨h, g, d, t, os⟩ := by
 have L0 := LT (model prog w)
 have L1 := looks_findIn (M := model prog w) X Z.cl
 have L2 : Looks (model prog w) h (typeOf (.builtin "object.__class__")) (.type "getset_descriptor") := Looks.of_pure F.typeOf_object_class
 have L3 : Looks (model prog w) h (typeLookup (.type "getset_descriptor") "__get__") (some (.builtin "getset_descriptor.__get__")) := Looks.of_pure F.slot_gs_get.lookup
 have L4 : Looks (model prog w) h (typeLookup (.type "getset_descriptor") "__set__") (some (.builtin "getset_descriptor.__set__")) := Looks.of_pure F.slot_gs_set.lookup
 repeat (first | with_reducible refine wpAny_call (xc_get X LT Z.ob ?_) | lk)
 exact hq
theorem xc_call {tk : Tok} {R : Result -> Shared -> Prop} (Z : XCls K C) (X : K.In h) (LT : ∀ M : Model, Looks M h (typeOf (.ref x)) (.ref C)) (hq : R (.ok (.ret (.ref C))) ⟨h, g, d, t, os⟩) :
  codeAny (model prog w) A (.call (.builtin "BaseException.__getattribute__") ⟨[.ref x, .str "__class__" tk], []⟩) R ⟨h, g, d, t, os⟩ := by
 have k1 : builtinKind "BaseException.__getattribute__" = some .slot := by decide +kernel
 have k2 : splitId "BaseException.__getattribute__" = some ("BaseException", "__getattribute__") := by decide +kernel
 have k3 := F.args_bexc_ga (.ref x) (.str "__class__" tk)
 have L0 := LT (model prog w)
 have L1 := looks_mroIn (M := model prog w) X Z.be
 refine codeAny_call_builtin (by decide +kernel) F.entry_bexc_ga ?_
 simp only [checkBuiltinCall, k1, k2]
 refine wpAny_bind ?_
 unfold isInstance
 refine wpAny_bind (L0.at (L1.at ?_))
 rw [if_neg (by decide)]
 exact wpAny_of_eq (a := ()) k3 (xc_entry Z X LT hq)
theorem xc_class {Q : Option Value -> Shared -> Prop} (Z : XCls K C) (X : K.In h) (LT : ∀ M : Model, Looks M h (typeOf (.ref x)) (.ref C)) (hq : Q (some (.ref C)) ⟨h, g, d, t + 1, os⟩) :
  wpAny (model prog w) A (getAttr? (.ref x) "__class__") Q E ⟨h, g, d, t, os⟩ := by
 have L0 := LT (model prog w)
 have L1 := looks_findIn (M := model prog w) X Z.ga
 have L2 := looks_findIn (M := model prog w) X Z.nog
 unfold getAttr? getAttrBy? getAttrBy
 refine wpAny_bind (wpAny_mkText (wpAny_bind (wpAny_attempt (wpAny_holding (wpAny_bind (L0.at (wpAny_bind (L1.at ?_))))))))
 dsimp only
 rw [if_neg (by intro z; rw [Bool.and_eq_true] at z; exact absurd z.2 (by decide))]
 unfold getAttrByItsOwn hookBefore
 rw [if_pos (by rfl)]
 refine wpAny_bind (L2.at (wpAny_bind (wpAny_attempt (wpAny_holding ?_))))
 unfold callGetattribute
 rw [if_neg (by decide)]
 unfold boundAndCalled
 have b1 : bindSpecial (.builtin "BaseException.__getattribute__") (.ref x) = pure (.builtin "BaseException.__getattribute__", [.ref x]) := F.attr_ValueError.ga.bind _
 refine wpAny_bind (wpAny_of_eq b1 (wpAny_call (xc_call Z X LT ?_)))
 exact handed_on rfl (wpAny_pure hq)
theorem XAt.looks {a C : Addr} (p : XAt a C h) (M : Model) : Looks M h (typeOf (.ref a)) (.ref C) := by
 obtain ⟨o, vs, h1, h2, _⟩ := p
 exact h2 ▸ (Looks.ld h1).andThen .now
theorem kitx_exc {a C : Addr} (Z : XCls K C) : KitX K (.ref a) (.ref C) (XAt a C) where
 ty := fun M h _ p => p.looks M
 it := fun M h X _ => by
  have q := Z.ob
  unfold mroIn at q
  cases hc : clsIn K C with
  | none => rw [hc] at q; cases q
  | some cd =>
   unfold clsIn at hc
   split at hc
   ·rename_i c' d' cd' sl' ho
    intro A1 Q1 E1 s1 kk qq
    unfold isType loadHead
    exact wpAny_bind (wpAny_loadPart (kk _ _ (X C _ ho)) (wpAny_pure qq))
   ·cases hc
 ne := fun h tp dd its n sl X htp => by
  refine Bool.eq_false_iff.mpr fun z => ?_
  have e : C = tp := Value.ref.inj (beq_iff_eq.mp z)
  subst e
  have q := Z.ob
  unfold mroIn at q
  cases hc : clsIn K C with
  | none => rw [hc] at q; cases q
  | some cd =>
   unfold clsIn at hc
   split at hc
   ·rename_i c' d' cd' sl' ho
    cases (X _ _ ho).symm.trans htp
   ·cases hc
 ca := fun {prog w A E Q s} X p hq => by
  obtain ⟨hh, g, d, t, os⟩ := s
  exact xc_class Z X p.looks hq
end
end
end L2
namespace L2
open List
open PySem PySem.Spec PyProof.Rows
section
structure Flown (P : Program) (w : World) (outer : List Env) (H : Hp) (s : Shared) (H' : Hp) (B h' : Heap) : Prop where
 un : Un (frs outer) [] H H' s.heap h'
 ok : HOk P w H' h'
 st : B.StaysIn h'
 trk : ∀ b o, H' b = some o -> ∃ ob, B.get? b = some ob
 old : ∀ b o, s.heap.get? b = some o -> b ∉ frs outer -> ∃ ob, B.get? b = some ob
def CXx (P : Program) (w : World) : CXT := fun outer H s E ev s' => ∃ (e C : Addr) (a0 : Value) (H' : Hp) (B : Heap), ev = .ref e /\ s'.os = s.os /\ AllBare s'.gens /\ Flown P w outer H s H' B s'.heap /\
 Heap.FlyingW B outer e (.ref C) a0 s'.heap /\ E (.ref C) none H'
section
variable {P : Program} {w : World} {outer : List Env} {H H' : Hp} {s : Shared} {B h1 h2 base : Heap}
theorem Flown.on (f : Flown P w outer H s H' B h1) (fr : h1.FunFrames base outer) (st : B.StaysIn h2) (up : h1.UpToSlots h2) : Flown P w outer H s H' B h2 := by
 have same : ∀ b o, h1.get? b = some o -> (∃ ob, B.get? b = some ob) -> h2.get? b = some o := fun b o e hpat => by
  obtain ⟨ob, eb⟩ := hpat
  have := f.st b ob eb
  rw [e] at this; cases this
  exact st b o eb
 have fslot : ∀ b o, b ∈ frs outer -> h1.get? b = some o -> ∃ sl, h2.get? b = some { o with slots := sl } := fun b o hb e => by
  obtain ⟨_, o', e', hd⟩ := fr.mem hb
  rw [e] at e'; cases e'
  exact up b o e hd
 refine ⟨⟨fun b o e n hb hx => same b o (f.un.keep b o e n hb hx) (f.old b o e hb), fun b o e n hb hx => ?_, f.un.free, fun b o e hx => ?_, f.un.tups, f.un.frzs, f.un.tbls⟩, fun b u e => ?_, st, f.trk, f.old⟩
 ·obtain ⟨sl, e1⟩ := f.un.slot b o e n hb hx
  obtain ⟨sl2, e2⟩ := fslot b _ hb e1
  exact ⟨sl2, e2⟩
 ·by_cases hb : b ∈ frs outer
  ·obtain ⟨o1, e1⟩ := f.un.there b o e hx
   obtain ⟨sl2, e2⟩ := fslot b _ hb e1
   exact ⟨_, e2⟩
  ·obtain ⟨ob, eb⟩ := f.old b o e hb
   exact ⟨ob, st b ob eb⟩
 ·refine (f.ok b u e).stay (fun c v hc q => same c v q ?_) (fun _ q => q) fun _ _ q => q
  rcases hc with z | z
  ·rw [z]; exact f.trk b u e
  ·exact f.trk c _ z
end
structure Top (X : Cx) : Prop where
 stk : X.stack = X.env :: X.outer
 frm : X.env.frame = some X.env.locals
 ex : X.ex = []
section
variable {X : Cx} {pins : List (Addr × Obj)} {σ : St} {H H' : Hp} {s : Shared} {B h1 : Heap}
theorem Flown.inv {s' : Shared} (I : Inv X pins σ H s) (f : Flown X.prog X.w X.stack H s H' B s'.heap) (os : s'.os = s.os) (bare : AllBare s'.gens) : Inv X pins σ H' s' :=
 I.call' (ch := []) os f.un f.ok bare fun b z => absurd z (by simp)
theorem Flown.out {s' : Shared} (T : Top X) (I : Inv X pins σ H s) (f : Flown X.prog X.w X.stack H s H' B s'.heap) (os : s'.os = s.os) (bare : AllBare s'.gens) : Flown X.prog X.w X.outer X.H₀ X.s₀ H' B s'.heap := by
 have I' := f.inv I os bare
 refine ⟨by have := I'.base; rw [T.ex] at this; exact this, f.ok, f.st, f.trk, fun b o e hb => ?_⟩
 obtain ⟨o1, e1⟩ := I.base.there b o e (by rw [T.ex]; simp)
 refine f.old b o1 e1 fun z => ?_
 rcases List.mem_cons.mp (I.stkSub b z) with z | z
 ·exact absurd (Nat.lt_of_lt_of_le (Heap.lt_size e) I.ok.above) (by rw [z]; exact Nat.lt_irrefl _)
 ·exact hb z
end
theorem ObjOk.there {P : Program} {w : World} {H : Hp} {h : Heap} {a : Addr} {o : HO} (x : ObjOk P w H h a o) : ∃ ob, h.get? a = some ob := by
 cases o with
 | lst xs => obtain ⟨_, _, _, _, e⟩ := x; exact ⟨_, e⟩
 | tup xs => obtain ⟨_, _, _, ⟨_, e, _⟩⟩ := x; exact ⟨_, e⟩
 | dK kvs => obtain ⟨_, _, _, _, o, _, _, e, _⟩ := x; exact ⟨_, e⟩
 | dT kvs => obtain ⟨_, _, _, _, o, _, _, e, _⟩ := x; exact ⟨_, e⟩
 | set S n => obtain ⟨o, _, _, _, e, _⟩ := x; exact ⟨_, e⟩
 | ins C dx fs => obtain ⟨_, _, _, e, _⟩ := x; exact ⟨_, e⟩
 | own y => exact x
 | xd fs => obtain ⟨_, ⟨_, _, _, e, _⟩, _⟩ := x; exact ⟨_, e⟩
 | rng lo hi => obtain ⟨_, _, _, e⟩ := x; exact ⟨_, e⟩
 | frz ob u => exact ⟨_, x.1⟩
 | tbl ps => exact ⟨_, show h.get? a = some _ from x⟩
 | met f y => exact ⟨_, show h.get? a = some _ from x⟩
 | ext φ => exact x.2.1
abbrev bmV : List Value := [.type "ValueError", .type "Exception", .type "BaseException", .type "object"]
theorem xobj {K : W.Frag} {h : Heap} {C : Addr} {bmB : List Value} {newId : String} (X : K.In h) (q : W.excIn K C bmB newId = true) :
  ∃ bm N nm qn bs hdct sn sub ab col dd k0 k1 k2 k3 k5 mN, h.get? C = some (excClassObj nm qn C N bs bm hdct sn sub ab col dd k0 k1 k2 k3 k5 newId) /\ h.Ns N mN /\ mN "__init__" = none /\ OwnTail h bmB bm := by
 unfold W.excIn at q
 split at q
 ·rename_i d1 cd sl ho
  split at q
  ·rename_i C1 bm k0 k1 k2 k3 n1 k5 hm hs
   simp only [beq_iff_eq, Bool.not_eq_true', Bool.and_eq_true] at q
   obtain ⟨⟨⟨⟨⟨y1, y2⟩, y3⟩, y4⟩, y5⟩, y6⟩ := q
   subst y1 y2
   obtain ⟨a1, a2, a3, a4, a5, a6, a7, a8, a9, a10, a11⟩ := cd
   dsimp only at hm y3 y5 y6
   subst hm y3
   obtain ⟨l⟩ := sl
   have hl : l = [k0, k1, k2, k3, some (.builtin n1), k5] := hs
   subst hl
   exact ⟨bm, _, _, _, _, _, _, _, _, _, _, k0, k1, k2, k3, k5, _, X _ _ ho, .of_isNs (W.isNs_of_in X y5), W.nsMap_none_of_in X y5 y6, W.tail_of_in X y4⟩
  ·cases q
 ·cases q
def XC (K : W.Frag) (c : Str) (C : Addr) : Prop := W.nsIn K mainGlobals c = some (some (.ref C)) /\ xName K C = some c
def RXp (X : Cx) (pins : List (Addr × Obj)) (W : Str -> St -> Hp -> Prop) (ev : Value) (s3 : Shared) : Prop :=
 ∃ (e C : Addr) (a0 : Value) (σ' : St) (H1 : Hp) (s1 : Shared) (H' : Hp) (B : Heap) (c : Str), ev = .ref e /\ Inv X pins σ' H1 s1 /\ s3.os = s1.os /\ AllBare s3.gens /\ Flown X.prog X.w X.stack H1 s1 H' B s3.heap /\
  Heap.FlyingW B X.stack e (.ref C) a0 s3.heap /\ XC X.K c C /\ W c σ' H'
def RX (X : Cx) (pins : List (Addr × Obj)) (W : Str -> St -> Hp -> Prop) (ev : Value) (s' : Shared) : Prop :=
 wpAny (model X.prog X.w) X.A (noteFrame ev X.env) (fun _ s2 => wpAny (model X.prog X.w) X.A (setFlight ev none) (fun _ s3 => RXp X pins W ev s3) noE s2) noE s'
section
variable {X : Cx} {pins : List (Addr × Obj)} {σ : St} {H : Hp} {s : Shared} {W : Str -> St -> Hp -> Prop}
theorem rx_call {E : XK} {ev : Value} {s' : Shared} (T : Top X) (I : Inv X pins σ H s) (h : CXx X.prog X.w X.stack H s E ev s') (hE : ∀ v o H', E v o H' -> ∃ c C, v = .ref C /\ XC X.K c C /\ W c σ H') : RX X pins W ev s' := by
 obtain ⟨e, C, a0, H', B, rfl, os, bare, f, fl, q⟩ := h
 obtain ⟨c, C', z, xc, w⟩ := hE _ _ _ q
 cases z
 have fr : X.A.frames = some (X.env :: X.outer) := by rw [<- T.stk]; exact I.ok.frames
 have fl0 := fl
 rw [T.stk] at fl
 refine wpAny_looks_onW fr T.frm fl fun h1 hh up => ?_
 have f1 := f.on fl0.2.2.1 hh.1 up
 refine wpAny_landsW hh fun h2 fl2 up2 => ?_
 rw [<- T.stk] at fl2 hh
 exact ⟨e, C, a0, σ, H, s, H', B, c, rfl, I, os, bare, f1.on hh.2.2.1 fl2.1 up2, fl2, xc, w⟩
theorem rx_made {e C : Addr} {c : Str} {us : List Value} {h1 : Heap} (T : Top X) (I : Inv X pins σ H s) (hm : Heap.MadeExcOf s.heap h1 e (.ref C) us) (xc : XC X.K c C) (q : W c σ H) : RX X pins W (.ref e) { s with heap := h1 } := by
 have fr : X.A.frames = some (X.env :: X.outer) := by rw [<- T.stk]; exact I.ok.frames
 have hin : ∀ env ∈ X.stack, ∀ a, env.frame = some a -> a ∈ frs X.stack := fun env he a ha => List.mem_filterMap.mpr ⟨env, he, ha⟩
 have ff := PySem.W.funFrames_hide I.stack hin
 have st0 : (PySem.W.hideAll s.heap (frs X.stack)).StaysIn s.heap := fun b o z => PySem.W.of_hideAll _ z
 have f0 : Flown X.prog X.w X.stack H s H (PySem.W.hideAll s.heap (frs X.stack)) s.heap :=
  ⟨Un.refl, I.hok, st0, fun b o z => (by
   obtain ⟨ob, eb⟩ := (I.hok b o z).there
   exact ⟨ob, PySem.W.hideAll_get _ eb fun y => by rw [I.stkFree b y] at z; cases z⟩), fun b o z hb => ⟨o, PySem.W.hideAll_get _ z hb⟩⟩
 obtain ⟨t, he, htn, ht⟩ := hm.there
 have ff' : s.heap.FunFrames (PySem.W.hideAll s.heap (frs X.stack)) (X.env :: X.outer) := by rw [<- T.stk]; exact ff
 have en : (PySem.W.hideAll s.heap (frs X.stack)).get? e = none := by
  cases z : (PySem.W.hideAll s.heap (frs X.stack)).get? e with
  | none => rfl
  | some o => have := st0 e o z; rw [hm.new] at this; cases this
 have key : wpAny (model X.prog X.w) X.A (noteFrame (.ref e) X.env) (fun _ s2 => wpAny (model X.prog X.w) X.A (setFlight (.ref e) none) (fun _ s3 => RXp X pins W (.ref e) s3) noE s2) noE { s with heap := h1 } := by
  unfold noteFrame
  simp only [T.frm]
  refine wpAny_bind (wpAny_field (s := { s with heap := h1 }) (x := Value.none) he rfl (by rfl) ?_)
  rw [if_neg (by decide)]
  refine wpAny_newEntryW (s := { s with heap := h1 }) (a0 := .ref t) fr (ff'.of_keeps fun b o z _ => ⟨o, hm.keeps b o z, rfl⟩) T.frm he (fun b o z => hm.keeps b o (st0 b o z)) en rfl (by simp) (by rfl) fun h2 hL => ?_
  obtain ⟨k1, k2, k3, k4⟩ := hL
  rw [<- T.stk] at k2
  exact ⟨e, C, .ref t, σ, H, s, H, _, c, rfl, I, rfl, I.bare, f0.on I.stack k1 ((Heap.UpToSlots.of_keeps hm.keeps).trans k4), ⟨k1, en, k2, k3⟩, xc, q⟩
 exact key
theorem rx_leaves {E : XK} {ev : Value} {s' : Shared} (T : Top X) (h : RX X pins (fun c _ H' => ∀ C, XC X.K c C -> E (.ref C) none H') ev s') :
  wpAny (model X.prog X.w) X.A (leaving X.env ev) (fun _ s'' => CXx X.prog X.w X.outer X.H₀ X.s₀ E ev s'') (fun e' s'' => CXx X.prog X.w X.outer X.H₀ X.s₀ E e' s'') s' := by
 unfold leaving
 refine wpAny_bind (wpAny_mono h (fun _ s2 h2 => wpAny_mono h2 (fun _ s3 h3 => ?_) fun _ _ z => z.elim) fun _ _ z => z.elim)
 obtain ⟨e, C, a0, σ', H1, s1, H', B, c, rfl, I, os, bare, f, fl, xc, q⟩ := h3
 obtain ⟨l1, l2, l3, l4⟩ := fl
 rw [T.stk] at l3
 exact ⟨e, C, a0, H', B, rfl, by rw [os]; exact I.os, bare, f.out T I os bare, ⟨l1, l2, l3.2.2, l4⟩, q C xc⟩
end
abbrev Cx.bear (X : Cx) (pins : List (Addr × Obj)) (E : Value -> Shared -> Prop) : Cx := { X with pn := X.pn ++ pins, xe := E }
section
variable {X : Cx} {pins pins' : List (Addr × Obj)} {σ : St} {H : Hp} {s : Shared} {E : Value -> Shared -> Prop}
theorem Cx.Ok.bear (ok : X.Ok) : (X.bear pins E).Ok := ⟨ok.mod, ok.kind, ok.glob, ok.blt, ok.above, ok.inj, ok.has, ok.cab, ok.hd, ok.frames, ok.stk, ok.exf, ok.bs, ok.bsz, ok.noex, ok.exfs, ok.funs, ok.frf⟩
theorem Cx.Ok.unbear (ok : (X.bear pins E).Ok) : X.Ok := ⟨ok.mod, ok.kind, ok.glob, ok.blt, ok.above, ok.inj, ok.has, ok.cab, ok.hd, ok.frames, ok.stk, ok.exf, ok.bs, ok.bsz, ok.noex, ok.exfs, ok.funs, ok.frf⟩
theorem Inv.bear (I : Inv X (pins ++ pins') σ H s) : Inv (X.bear pins E) pins' σ H s := ⟨I.ok.bear, I.os, I.bare, I.base, I.loc, I.cell, I.free, I.freeC, fun p hp => I.pin p (by rw [<- append_assoc]; exact hp), I.hok, I.len⟩
theorem Inv.unbear (I : Inv (X.bear pins E) pins' σ H s) : Inv X (pins ++ pins') σ H s := ⟨I.ok.unbear, I.os, I.bare, I.base, I.loc, I.cell, I.free, I.freeC, fun p hp => I.pin p (by rw [<- append_assoc] at hp; exact hp), I.hok, I.len⟩
theorem Inv.fewer (I : Inv X (pins ++ pins') σ H s) : Inv X pins σ H s := ⟨I.ok, I.os, I.bare, I.base, I.loc, I.cell, I.free, I.freeC, fun p hp => I.pin p (by rw [<- append_assoc]; exact mem_append_left _ hp), I.hok, I.len⟩
theorem SP.bear {D : Ends} {f : Flow} {s' : Shared} (h : SP X (pins ++ pins') D f s') : SP (X.bear pins E) pins' D f s' := by
 cases f with
 | next => obtain ⟨σ', H', I, q⟩ := h; exact ⟨σ', H', I.bear, q⟩
 | brk => obtain ⟨σ', H', I, q⟩ := h; exact ⟨σ', H', I.bear, q⟩
 | cont => obtain ⟨σ', H', I, q⟩ := h; exact ⟨σ', H', I.bear, q⟩
 | ret u => obtain ⟨v, σ', H', I, r, q⟩ := h; exact ⟨v, σ', H', I.bear, r, q⟩
theorem SP.unbear {D : Ends} {f : Flow} {s' : Shared} (h : SP (X.bear pins E) pins' D f s') : SP X (pins ++ pins') D f s' := by
 cases f with
 | next => obtain ⟨σ', H', I, q⟩ := h; exact ⟨σ', H', I.unbear, q⟩
 | brk => obtain ⟨σ', H', I, q⟩ := h; exact ⟨σ', H', I.unbear, q⟩
 | cont => obtain ⟨σ', H', I, q⟩ := h; exact ⟨σ', H', I.unbear, q⟩
 | ret u => obtain ⟨v, σ', H', I, r, q⟩ := h; exact ⟨v, σ', H', I.unbear, r, q⟩
variable (nx : X.xe = noE)
include nx
theorem PE.bear {e : Expr} {t : TE} (h : PE X e t) : PE (X.bear pins E) e t := fun pins' s σ H Q I hw =>
 wpAny_mono (h _ s σ H Q I.unbear hw) (fun _ _ ⟨v, H', I', r, q⟩ => ⟨v, H', I'.bear, r, q⟩) fun _ _ z => by rw [nx] at z; exact z.elim
theorem PT.bear {e : Expr} {t : TT} (h : PT X e t) : PT (X.bear pins E) e t := fun pins' s σ H Q I hw =>
 wpAny_mono (h _ s σ H Q I.unbear hw) (fun _ _ ⟨H', I', q⟩ => ⟨H', I'.bear, q⟩) fun _ _ z => by rw [nx] at z; exact z.elim
theorem PA.bear {es : List Expr} {t : TA} (h : PA X es t) : PA (X.bear pins E) es t := fun pos pins' s σ H Q I hw =>
 wpAny_mono (h pos _ s σ H Q I.unbear hw) (fun _ _ ⟨v, H', I', r, q⟩ => ⟨v, H', I'.bear, r, q⟩) fun _ _ z => by rw [nx] at z; exact z.elim
theorem PS.bear {st : Stmt} {t : TS} (h : PS X st t) : PS (X.bear pins E) st t := fun pins' s σ H D I hw =>
 wpAny_mono (h _ s σ H D I.unbear hw) (fun _ _ q => q.bear) fun _ _ z => by rw [nx] at z; exact z.elim
theorem PSs.bear {st : List Stmt} {t : TS} (h : PSs X st t) : PSs (X.bear pins E) st t := fun pins' s σ H D I hw =>
 wpAny_mono (h _ s σ H D I.unbear hw) (fun _ _ q => q.bear) fun _ _ z => by rw [nx] at z; exact z.elim
end
end
section
abbrev MXe := Ro -> Option Str
abbrev MXs := Ro -> Option (Str × Ro)
abbrev WX := Str -> St -> Hp -> Prop
def TXe (K : PySem.W.Frag) (x : MXe) (W : WX) : St -> Hp -> Prop := fun σ H => ∃ F0 H0 F ρ c, Rl K F0 H0 F H σ ρ /\ x ρ = some c /\ ∀ F' H', Ext F H F' H' -> W c σ H'
def TXs (K : PySem.W.Frag) (x : MXs) (W : WX) : St -> Hp -> Prop := fun σ H => ∃ F0 H0 F ρ c ρ', Rl K F0 H0 F H σ ρ /\ x ρ = some (c, ρ') /\ ∀ F' H' σ', Rl K F0 H0 F' H' σ' ρ' -> Same F F' -> W c σ' H'
abbrev Cx.rx (X : Cx) (pins : List (Addr × Obj)) (W : WX) : Cx := X.bear pins (RX X pins W)
def PEX (X : Cx) (e : Expr) (x : MXe) : Prop := ∀ pins W, PE (X.rx pins W) e fun σ H _ => TXe X.K x W σ H
def PSX (X : Cx) (st : Stmt) (x : MXs) : Prop := ∀ pins W, PS (X.rx pins W) st fun _ σ H => TXs X.K x W σ H
def PSsX (X : Cx) (st : List Stmt) (x : MXs) : Prop := ∀ pins W, PSs (X.rx pins W) st fun _ σ H => TXs X.K x W σ H
def xE (x : MXe) : MXs := fun ρ => (x ρ).map fun c => (c, ρ)
theorem xE_e {K : PySem.W.Frag} {x : MXe} {W : WX} {σ : St} {H : Hp} (h : TXs K (xE x) W σ H) : TXe K x W σ H := by
 obtain ⟨F0, H0, F, ρ, c, ρ', rl, e, w⟩ := h
 unfold xE at e
 cases h1 : x ρ with
 | none => rw [h1] at e; cases e
 | some c' =>
  rw [h1] at e; cases e
  exact ⟨F0, H0, F, ρ, c, rl, h1, fun F' H' x1 => w F' H' σ (rl.go x1) x1.ff⟩
section
variable {X : Cx} {st : Stmt} {rest : List Stmt} {e c : Expr} {pos : Pos}
def xnone : MXs := fun _ => none
theorem pssx_none : PSsX X rest xnone := fun _ _ _ _ _ _ _ _ hpat => by obtain ⟨_, _, _, _, _, _, _, z, _⟩ := hpat; cases z
theorem PS.or {t u : TS} (h : PS X st t) (k : PS X st u) : PS X st fun D σ H => t D σ H \/ u D σ H := fun pins s σ H D I q => q.elim (fun z => h pins s σ H D I z) fun z => k pins s σ H D I z
theorem PSs.or {t u : TS} (h : PSs X rest t) (k : PSs X rest u) : PSs X rest fun D σ H => t D σ H \/ u D σ H := fun pins s σ H D I q => q.elim (fun z => h pins s σ H D I z) fun z => k pins s σ H D I z
theorem pssx_head {x : MXs} (h : PSX X st x) : PSsX X (st :: rest) x := fun pins W => (pss_cons (h pins W) (pssx_none pins W)).imp fun _ _ _ q => q
theorem pssx_one {x : MXs} (h : PSX X st x) : PSsX X [st] x := fun pins W => pss_one (h pins W)
def xif (c : MB) (x y : MXs) : MXs := fun ρ => match c ρ with | some true => x ρ | some false => y ρ | none => none
theorem psx_if {ca : MB} {a b : List Stmt} {xa xb : MXs} (nx : X.xe = noE) (hc : PC' X c ca) (ha : PSsX X a xa) (hb : PSsX X b xb) : PSX X (.If c a b pos) (xif ca xa xb) := fun pins W =>
 (ps_if (PT.bear nx hc) (ha pins W) (hb pins W)).imp fun D σ H hpat => by
  obtain ⟨F0, H0, F, ρ, c, ρ', rl, e, w⟩ := hpat
  unfold xif at e
  split at e
  ·rename_i h1
   exact ⟨F0, H0, F, ρ, _, rl, h1, fun F1 H1 x1 => iteT ⟨F0, H0, F1, ρ, c, ρ', rl.go x1, e, fun F' H' σ' rl' sf => w F' H' σ' rl' (x1.ff.trans sf)⟩⟩
  ·rename_i h1
   exact ⟨F0, H0, F, ρ, _, rl, h1, fun F1 H1 x1 => iteF ⟨F0, H0, F1, ρ, c, ρ', rl.go x1, e, fun F' H' σ' rl' sf => w F' H' σ' rl' (x1.ff.trans sf)⟩⟩
  ·cases e
theorem psx_expr {x : MXe} (h : PEX X e x) (hs : swapsWith e none pos.line X.env = pure false := by rfl) : PSX X (.Expr e pos) (xE x) := fun pins W => (ps_expr (h pins W) hs).imp fun _ _ _ q => xE_e q
abbrev MFX := List D -> Option Str
def spX (K : W.Frag) (n : Nat) (x : MFX) : Sp := fun vs H _ E => vs.length = n /\ ∃ F ds c, Same F H /\ Reps K F vs ds /\ x ds = some c /\ ∀ C F' H', XC K c C -> Ext F H F' H' -> E (.ref C) none H'
@[irreducible] def xcall (x : MFX) (m : ML) : MXe := fun ρ => (m ρ).bind x
theorem pex_call {k n : Nat} {f : Addr} {fd : FuncData} {ps : List Str} {xf : MFX} {m : ML} {x : Str} {p : Pos} {es : List Expr} (nx : X.xe = noE) (T : Top X) (F : FnOk X.prog X.w X.K X.mg X.base (CXx X.prog X.w) k f fd ps (spX X.K n xf)) (hr : Room k X.A) (hg : Gl X x) (hm : X.mg x = some (.ref f))
  (hk : PySem.W.keepIn X.K (.ref f) = true) (hb : Binds X.K fd ps []) (hl : (e :: es).length = n) (ha : PAs X (e :: es) m) (hm2 : ∀ ρ ds, m ρ = some ds -> ds.length = (e :: es).length)
  (hdb : (x == ("__debug__" : Str)) = false := by decide) (he : starEach (e :: es) X.env = (false, eval e X.env) :: starEach es X.env := by rfl) (hpl : (backTo pos (starEach es X.env)).any (·.1) = false := by rfl) :
  PEX X (.Call (.Name x p) (e :: es) [] pos) (xcall xf m) := by
 intro pins W pins' s σ H Q I h
 obtain ⟨F0, H0, F1, ρ, c, rl, e1, w⟩ := h
 unfold xcall at e1
 cases h1 : m ρ with
 | none => rw [h1] at e1; cases e1
 | some ds =>
  rw [h1] at e1
  have e1 : xf ds = some c := e1
  have ha' : PA (X.rx pins W) (e :: es) (TAs X.K m) := PA.bear nx ha
  refine wpAny_Call_Name_kw (ld_glob I hg hm ?_ hdb)
  refine PySem.W.callWith_K (h₀ := X.base) I.ok.mod.kin hk (thn (ha' pos pins' s σ H (fun vs H1 => vs.length = n /\ ∃ F2, Ext F1 H F2 H1 /\ Reps X.K F2 vs ds) I ⟨F0, H0, F1, ρ, ds, rl, h1, fun vs F2 H2 x2 r2 => ⟨by rw [r2.length, hm2 ρ ds h1, hl], F2, x2, r2⟩⟩) fun us s1 ⟨vs, H1, I1, r, hn, F2, x2, r2⟩ => ⟨I1.kIn, ?_⟩) he hpl
  have sp0 : spX X.K n xf vs H1 (fun _ _ => False) (fun v _ H' => ∃ c C, v = .ref C /\ XC X.K c C /\ W c σ H') := ⟨hn, F2, ds, c, x2.fh, r2, e1, fun C F' H' xc x3 => ⟨c, C, rfl, xc, w F' H' (x2.trans x3)⟩⟩
  have hlu : us.length = ps.length := by rw [<- r.length]; exact F.len _ _ _ _ sp0
  have hbd := hb s1 us I1.kIn (by rw [append_nil]; exact hlu)
  rw [append_nil] at hbd
  refine wpAny_call (codeAny_mono (F.run X.A X.stack s1 H1 ⟨us, []⟩ us vs _ _ hr I1.env0 hbd r sp0) fun r' s' hq => ?_)
  cases r' with
  | error ev => exact rx_call (E := fun v _ H' => ∃ c C, v = .ref C /\ XC X.K c C /\ W c σ H') T I1.unbear.fewer hq fun v o H' z => z
  | ok fl =>
   cases fl with
   | ret u => obtain ⟨_, _, _, _, _, _, _, z⟩ := hq; exact z.elim
   | next => exact False.elim hq
   | brk => exact False.elim hq
   | cont => exact False.elim hq
def xraise (c : Str) (m : ML) : MXs := fun ρ => (m ρ).map fun _ => (c, ρ)
theorem psx_raise {C : Addr} {x : Str} {es : List Expr} {m : ML} {n : Nat} {np cpos : Pos} (nx : X.xe = noE) (T : Top X) (hc : X.calm = true) (hg : Gl X x) (hm : X.mg x = some (.ref C)) (xc : XC X.K x C) (q : PySem.W.excIn X.K C bmV "ValueError.__new__" = true)
  (ha : PAs X (e :: es) m) (hl : ∀ ρ ds, m ρ = some ds -> ds.length = n) (hn : n <= sizeLine) (hdb : (x == ("__debug__" : Str)) = false := by decide)
  (he : starEach (e :: es) X.env = (false, eval e X.env) :: starEach es X.env := by rfl) (hpl : (backTo cpos (starEach es X.env)).any (·.1) = false := by rfl) :
  PSX X (.Raise (some (.Call (.Name x np) (e :: es) [] cpos)) none pos) (xraise x m) := by
 intro pins W pins' s σ H D I h
 obtain ⟨F0, H0, F1, ρ, c, ρ', rl, e1, w⟩ := h
 unfold xraise at e1
 cases h1 : m ρ with
 | none => rw [h1] at e1; cases e1
 | some ds =>
  rw [h1] at e1; cases e1
  obtain ⟨bm, N, nm, qn, bs, hdct, sn, sub, ab, col, dd, k0, k1, k2, k3, k5, mN, hC, hN, hni, TL⟩ := xobj I.mod.kin q
  have ha' : PA (X.rx pins W) (e :: es) (TAs X.K m) := PA.bear nx ha
  have h2 := ha' cpos pins' s σ H (fun vs H1 => vs.length = n /\ W x σ H1) I ⟨F0, H0, F1, ρ, ds, rl, h1, fun vs F2 H2 x2 r2 => ⟨by rw [r2.length]; exact hl ρ ds h1, w F2 H2 σ (rl.go x2) x2.ff⟩⟩
  refine wpAny_Raise_call_subT (C := C) (N := N) (bm := bm) (nm := nm) (q := qn) (bs := bs) (sub := sub) (sn := sn) (hdct := hdct) (col := col) (ab := ab) (dd := dd) (k0 := k0) (k1 := k1) (k2 := k2) (k3 := k3) (k5 := k5) PySem.F.excBase_ValueError (TL.hasType PySem.F.excBase_ValueError.hasBase) (I.ok.hd hc) ?_ hni (ld_glob I hg hm ⟨rfl, ?_⟩ hdb)
  ·rw [he]
   show (false || (backTo cpos (starEach es X.env)).any (·.1)) = false
   rw [hpl]; rfl
  ·rw [he] at h2 ⊢
   refine Calls.evalArgs_plain (wpAny_mono h2 (fun us s2 ⟨vs, H1, I1, r1, hl1, q1⟩ => ⟨rfl, by rw [<- r1.length, hl1]; exact hn, I1.bk _ _ hC, hN.keeps I1.bk, TL.keeps I1.bk, fun h3 a hm3 => ?_⟩) fun _ _ y => y)
   exact rx_made T I1.unbear.fewer hm3 xc q1
def runX (n : Nat) (x : MXs) : MFX := fun ds => (x (startS n ds)).map (·.1)
theorem Fun.okX {P : Program} {w : World} {K : PySem.W.Frag} {mg : Str -> Option Value} {base : Heap} {x qual : Str} {st : Stmt} {f : Addr} {fd : FuncData} {N ps : List Str} {k : Nat} {m : MXs} (Fn : Fun K x qual st f fd) (Sc : FnScope N ps (defScope st))
  (hbody : ∀ (cdv : Value) (A : Around) (outer : List Env) (s : Shared) (H : Hp) (E : XK), Room k (A.deeper (envOfC qual (defScope st) s.heap.objs.size f cdv)) -> PSsX (cxOf (CXx P w) P w K mg base N qual (defScope st) f cdv A outer s H E).nox (defBody st) m) :
  FnOk P w K mg base (CXx P w) (k + 1) f fd ps (spX K ps.length (runX N.length m)) := by
 obtain ⟨oc, od, kV, doc, pm, an, cdv, ct, osl, rfl, lk, hcd⟩ := Fn.ex
 refine fn_of lk hcd Sc (fun vs H Q E h => h.1) fun A outer s H vs Q E hr h => ?_
 obtain ⟨hl, F, ds, c, sf, rs, e, w0⟩ := h
 unfold runX at e
 cases h1 : m (startS N.length ds) with
 | none => rw [h1] at e; cases e
 | some o =>
  obtain ⟨c', ρ'⟩ := o
  rw [h1] at e; cases e
  have hb := hbody cdv A outer s H E hr
  let W : WX := fun c _ H' => ∀ C, XC K c C -> E (.ref C) none H'
  refine ⟨fun _ σ H => TXs K m W σ H, fun pins s1 σ H1 D I q => ?_, F, H, F, startS N.length ds, c', ρ', rl_start sf rs, h1, fun F' H' σ' rl _ C xc => w0 C F' H' xc rl.ext⟩
  have I1 : Inv (cxOf (CXx P w) P w K mg base N qual (defScope st) f cdv A outer s H E).nox (pins ++ []) σ H1 s1 := by rw [append_nil]; exact I.wish _
  refine wpAny_mono (hb pins W [] s1 σ H1 D I1.bear q) (fun fl s' z => ?_) fun ev s' z => ?_
  ·have := z.unbear
   rw [append_nil] at this
   exact this.unwish
  ·exact rx_leaves (X := (cxOf (CXx P w) P w K mg base N qual (defScope st) f cdv A outer s H E).nox) ⟨rfl, rfl, rfl⟩ z
end
end
section
section
variable {X : Cx} {pins : List (Addr × Obj)} {E : Value -> Shared -> Prop} (nx : X.xe = noE)
include nx
theorem PG.bear {tg : Expr} {t : TG} (h : PG X tg t) : PG (X.bear pins E) tg t := fun pins' s σ H v u Q I r hw =>
 wpAny_mono (h _ s σ H v u Q I.unbear r hw) (fun _ _ ⟨σ', H', I', q⟩ => ⟨σ', H', I'.bear, q⟩) fun _ _ z => by rw [nx] at z; exact z.elim
theorem PI.bear {tg it : Expr} {t : TI} (h : PI X tg it t) : PI (X.bear pins E) tg it t := fun pins' s σ H R I hw =>
 wpAny_mono (h _ s σ H R I.unbear hw) (fun v s1 h1 => wpAny_mono h1 (fun itv s2 ⟨it, fp, tn, J, H', e, I', T, st, f, q⟩ => ⟨it, fp, tn, J, H', e, I'.bear, T, st, fun b hb => by
  obtain ⟨f0, f1, f2, f3, f4, f5⟩ := f b hb
  exact ⟨f0, f1, f2, f3, f4, fun p hp => f5 p (by rw [<- append_assoc]; exact hp)⟩, q⟩) fun _ _ z => by rw [nx] at z; exact z.elim) fun _ _ z => by rw [nx] at z; exact z.elim
end
section
variable {X : Cx} {e c : Expr} {pos : Pos} {st : Stmt} {rest : List Stmt}
end
end
section
abbrev Cx.inX (X : Cx) (a : Addr) : Cx := { X with A := X.A.mark (some (.ref a)), calm := false }
section
variable {X : Cx} {pins : List (Addr × Obj)} {σ : St} {H : Hp} {s : Shared} {a C : Addr}
theorem Cx.Ok.inX (ok : X.Ok) : (X.inX a).Ok := ⟨ok.mod, ok.kind, ok.glob, ok.blt, ok.above, ok.inj, ok.has, ok.cab, (fun z => by cases z), ok.frames, ok.stk, ok.exf, ok.bs, ok.bsz, ok.noex, ok.exfs, ok.funs, ok.frf⟩
theorem Inv.inX (I : Inv X pins σ H s) : Inv (X.inX a) pins σ H s := ⟨I.ok.inX, I.os, I.bare, I.base, I.loc, I.cell, I.free, I.freeC, I.pin, I.hok, I.len⟩
theorem Inv.outX (ok : X.Ok) (I : Inv (X.inX a) pins σ H s) : Inv X pins σ H s := ⟨ok, I.os, I.bare, I.base, I.loc, I.cell, I.free, I.freeC, I.pin, I.hok, I.len⟩
theorem Inv.gone {i : Nat} {n : Str} {h' : Heap} {t' : Nat} {v : Option Value} {m : Str -> Option Value} (I : Inv X pins σ H s) (hN : X.N.Nodup) (hi : X.N[i]? = some n) (hm : s.heap.Ns X.env.locals m) (hn : h'.Ns X.env.locals (fun x => if x = n then v else m x)) (hs : Heap.SameBut X.env.locals s.heap h') :
  Inv X pins (σ.set i none) H { s with heap := h', toks := t' } := by
 have old : ∀ b o, X.s₀.heap.get? b = some o -> b ≠ X.env.locals := fun b o e => Nat.ne_of_lt (Nat.lt_of_lt_of_le (Heap.lt_size e) I.ok.above)
 refine ⟨I.ok, I.os, I.bare, ⟨fun b o e n hb hx => (hs.2 b (old b o e)).trans (I.base.keep b o e n hb hx), fun b o e n hb hx => ?_, I.base.free, fun b o e hx => ?_, I.base.tups, I.base.frzs, I.base.tbls⟩, ⟨_, hn, fun j y u e1 e2 e3 => ?_⟩, fun y c e => ?_, I.free, I.freeC, fun p hp => ?_, fun b ob e => ?_, by rw [length_set]; exact I.len⟩
 ·obtain ⟨sl, e1⟩ := I.base.slot b o e n hb hx
  exact ⟨sl, (hs.2 b (old b o e)).trans e1⟩
 ·obtain ⟨o1, e1⟩ := I.base.there b o e hx
  exact ⟨o1, (hs.2 b (old b o e)).trans e1⟩
 ·have hj : j ≠ i := fun z => by
   subst z
   have hl : j < σ.length := by
    rcases Nat.lt_or_ge j σ.length with z | z
    ·exact z
    ·rw [getElem?_eq_none (by simpa using z)] at e2; cases e2
   rw [getElem?_set_self hl] at e2; cases e2
  rw [getElem?_set_ne (Ne.symm hj)] at e2
  obtain ⟨m0, hm0, hl0⟩ := I.loc
  have hmm : ∀ z, m0 z = m z := fun z => by
   obtain ⟨oo, es, ep, ho, hd, _, hf⟩ := hm0
   obtain ⟨oo', es', ep', ho', hd', _, hf'⟩ := hm
   rw [ho] at ho'; cases ho'
   rw [hd] at hd'; cases hd'
   rw [<- hf, <- hf']
  obtain ⟨w, r, l⟩ := hl0 j y u e1 e2 e3
  refine ⟨w, r, ?_⟩
  have hy : y ≠ n := fun z => hj (nodup_ix hN e1 (z ▸ hi))
  rcases l with ⟨k, q⟩ | ⟨k, c, e, z⟩
  ·exact .inl ⟨k, by show (if y = n then v else m y) = some w; rw [if_neg hy, <- hmm]; exact q⟩
  ·exact .inr ⟨k, c, e, z.sameBut hs (I.cne y c e)⟩
 ·obtain ⟨w, z⟩ := I.cell y c e
  exact ⟨w, z.sameBut hs (I.cne y c e)⟩
 ·obtain ⟨e, n, ne, nf, d⟩ := I.pin p hp
  exact ⟨(hs.2 p.1 ne).trans e, n, ne, nf, d⟩
 ·refine (I.hok b ob e).stay (fun c u hc q => (hs.2 c ?_).trans q) (fun _ q => q) fun _ _ q => q
  rintro rfl
  rcases hc with z | z
  ·rw [<- z, I.free] at e; cases e
  ·rw [I.free] at z; cases z
theorem Inv.track {o : HO} (I : Inv X pins σ H s) (h0 : X.s₀.heap.get? a = none) (hL : a ≠ X.env.locals) (hc : ∀ x c, X.env.cells.lookup x = some c -> c ≠ a) (hp : ∀ p ∈ X.pn ++ pins, p.1 ≠ a) (hn : H a = none) (new : ObjOk X.prog X.w (upd H a o) s.heap a o) :
  Inv X pins σ (upd H a o) s := by
 have nb : ∀ b o, X.s₀.heap.get? b = some o -> b ≠ a := fun b o e z => by rw [z, h0] at e; cases e
 refine ⟨I.ok, I.os, I.bare, ⟨I.base.keep, I.base.slot, fun b o e n hx => ?_, I.base.there, fun b xs e => ?_, fun b o u e => ?_, fun b ps e => ?_⟩, I.loc, I.cell, ?_, fun x c e => ?_, fun p hp' => ?_, fun b u e => ?_, I.len⟩
 ·rw [upd_ne (nb b o e)]; exact I.base.free b o e n hx
 ·have := I.base.tups b xs e
  rw [upd_ne (ne_of_none this hn)]; exact this
 ·have := I.base.frzs b o u e
  rw [upd_ne (ne_of_none this hn)]; exact this
 ·obtain ⟨more, this⟩ := I.base.tbls b ps e
  exact ⟨more, by rw [upd_ne (ne_of_none this hn)]; exact this⟩
 ·rw [upd_ne (Ne.symm hL)]; exact I.free
 ·rw [upd_ne (hc x c e)]; exact I.freeC x c e
 ·obtain ⟨e, n, r⟩ := I.pin p hp'
  exact ⟨e, by rw [upd_ne (hp p hp')]; exact n, r⟩
 ·by_cases hb : b = a
  ·subst hb; rw [upd_same] at e; cases e; exact new
  ·rw [upd_ne hb] at e
   exact (I.hok b u e).stay (fun c v _ q => q) (fun c q => by rw [upd_ne (ne_of_none q hn)]; exact q) fun c xs q => by rw [upd_ne (ne_of_none q hn)]; exact q
end
theorem Rl.drop {K : W.Frag} {F0 H0 F H : Hp} {σ : St} {ρ : Ro} (r : Rl K F0 H0 F H σ ρ) (i : Nat) : Rl K F0 H0 F H (σ.set i none) (ρ.set i none) := by
 have get : ∀ (j : Nat) x, (ρ.set i none)[j]? = some (some x) -> i ≠ j /\ ρ[j]? = some (some x) := fun j x e => by
  by_cases hj : i = j
  ·subst hj
   have hl : i < ρ.length := by
    rcases Nat.lt_or_ge i ρ.length with z | z
    ·exact z
    ·rw [getElem?_eq_none (by simpa using z)] at e; cases e
   rw [getElem?_set_self hl] at e; cases e
  ·rw [getElem?_set_ne hj] at e; exact ⟨hj, e⟩
 have gs : ∀ (j : Nat) x, (σ.set i none)[j]? = some (some x) -> σ[j]? = some (some x) := fun j x e => by
  by_cases hj : i = j
  ·subst hj
   have hl : i < σ.length := by
    rcases Nat.lt_or_ge i σ.length with z | z
    ·exact z
    ·rw [getElem?_eq_none (by simpa using z)] at e; cases e
   rw [getElem?_set_self hl] at e; cases e
  ·rw [getElem?_set_ne hj] at e; exact e
 refine ⟨r.ext, by simp [r.len], fun j d e => ?_, fun j ds e => ?_, fun j k p ds es hjk e1 e2 e3 e4 => r.inj j k p ds es hjk (get j _ e1).2 (get k _ e2).2 (gs j _ e3) (gs k _ e4), fun j p ds e => ?_, fun j k p ds es e1 e2 e3 => r.obn j k p ds es (get j _ e1).2 (get k _ e2).2 (gs k _ e3), fun j k p q ds es e1 e2 => r.ob1 j k p q ds es (get j _ e1).2 (get k _ e2).2⟩
 ·obtain ⟨n, e⟩ := get j _ e
  rw [getElem?_set_ne n]; exact r.sh j d e
 ·obtain ⟨n, e⟩ := get j _ e
  rw [getElem?_set_ne n]; exact r.own j ds e
 ·obtain ⟨n, e⟩ := get j _ e
  rw [getElem?_set_ne n]; exact r.ob j p ds e
@[irreducible] def mtry (names : List Str) (mb : MS) (xb : MXs) (i : Nat) (ms : MS) : MS := fun ρ => match mb ρ with
 | some o => some o
 | none => match xb ρ with
  | some (c, ρ1) => if c ∈ names then (match ms (ρ1.set i (some (.sh (.exc c)))) with | some (.nx ρ2) => some (.nx (ρ2.set i none)) | _ => none) else none
  | none => none
section
variable {X : Cx} {pos np hpos : Pos}
theorem psd_try {body suite : List Stmt} {b0 : Stmt} {mb ms : MS} {xb : MXs} {names : List Str} {x n : Str} {Wa : Addr} {i : Nat} (nx : X.xe = noE) (T : Top X) (hg : Gl X x) (hm : X.mg x = some (.ref Wa))
  (hcl : ∀ c ∈ names, ∀ C, XC X.K c C -> PySem.W.exmOne X.K (.ref C) (.ref Wa) = some true) (hN : X.N.Nodup) (hi : X.N[i]? = some n) (hl : X.env.scope.names.lookup n = some .local)
  (hb : PSsd X body mb) (hx : PSsX X body xb) (hs : ∀ a, PSsd (X.inX a) (b0 :: suite) ms) (hdb : (x == ("__debug__" : Str)) = false := by decide) :
  PSd X (.Try body [.ExceptHandler (some (.Name x np)) (some n) (b0 :: suite) hpos] [] [] pos) (mtry names mb xb i ms) := by
 intro pins s σ H D I ⟨F0, H0, F, ρ, o, rl, e, ok⟩
 unfold mtry at e
 refine wpAny_Try_except ?_
 cases h1 : mb ρ with
 | some o1 =>
  rw [h1] at e; cases e
  refine wpAny_mono (hb pins s σ H D I ⟨F0, H0, F, ρ, o, rl, h1, ok⟩) (fun f s1 h => ?_) fun _ _ z => by rw [nx] at z; exact z.elim
  cases f with
  | next =>
   obtain ⟨σ1, H1, I1, q⟩ := h
   exact pss_nil pins s1 σ1 H1 D I1 q
  | brk => exact h
  | cont => exact h
  | ret u => exact h
 | none =>
  rw [h1] at e
  cases h2 : xb ρ with
  | none => rw [h2] at e; cases e
  | some cr =>
   obtain ⟨c, ρ1⟩ := cr
   rw [h2] at e
   dsimp only at e
   split at e
   ·rename_i hc
    cases h3 : ms (ρ1.set i (some (.sh (.exc c)))) with
    | none => rw [h3] at e; cases e
    | some o3 =>
     rw [h3] at e
     cases o3 with
     | nx ρ2 =>
      cases e
      let W : WX := fun c' σ' H' => c' = c /\ ∃ F', Rl X.K F0 H0 F' H' σ' ρ1 /\ Same F F'
      have I0 : Inv X (pins ++ []) σ H s := by rw [append_nil]; exact I
      refine wpAny_mono (hx pins W [] s σ H { nx := fun _ _ => False, rt := fun _ _ => False } I0.bear ⟨F0, H0, F, ρ, c, ρ1, rl, h2, fun F' H' σ' rl' sf => ⟨rfl, F', rl', sf⟩⟩) (fun f s1 h => ?_) fun ev s1 h => ?_
      ·cases f with
       | next => obtain ⟨_, _, _, z⟩ := h; exact z.elim
       | brk => obtain ⟨_, _, _, z⟩ := h; exact z.elim
       | cont => obtain ⟨_, _, _, z⟩ := h; exact z.elim
       | ret u => obtain ⟨_, _, _, _, _, z⟩ := h; exact z.elim
      refine wpAny_mono h (fun _ s2 h2 => wpAny_mono h2 (fun _ s3 h3 => ?_) fun _ _ z => z.elim) fun _ _ z => z.elim
      obtain ⟨a, C, a0, σ1, H1, sa, H', B, c', rfl, Ia, os, bare, f, fl, xc, rfl, F1, rl1, sf1⟩ := h3
      have I3 : Inv X pins σ1 H' s3 := f.inv Ia os bare
      have LT : ∀ M : Model, PySem.W.Looks M s3.heap (typeOf (.ref a)) (.ref C) := fun M => by
       obtain ⟨ob, e1, e2⟩ := fl.there
       exact e2 ▸ (PySem.W.Looks.ld e1).andThen .now
      refine wpAny_handleBy_cons (codeAny_handlers_test (ld_glob (X := X.inX a) I3.inX hg hm ((PySem.W.exm_one I3.kIn (LT _) (hcl _ hc C xc)).here ?_) hdb)) (by intro z; cases z)
      refine codeAny_handlers_suite_as ?_
      refine lands_againW fl fun h4 fl4 up4 => ?_
      have f4 := f.on fl.2.2.1 fl4.1 up4
      have I4 : Inv X pins σ1 H' { s3 with heap := h4 } := f4.inv Ia os bare
      obtain ⟨oe, vs, he, hec, hed, _⟩ := fl4.first
      have nfr : a ∉ frs X.stack := fun z => by
       obtain ⟨_, o', e', hd'⟩ := fl4.2.2.1.mem z
       rw [he] at e'; cases e'
       exact hd' vs hed
      have young : sa.heap.get? a = none := by
       cases z : sa.heap.get? a with
       | none => rfl
       | some o' =>
        obtain ⟨ob, eb⟩ := f4.old a o' z nfr
        have := fl4.2.1
        rw [eb] at this; cases this
      have Ha : H' a = none := by
       cases z : H' a with
       | none => rfl
       | some o' =>
        obtain ⟨ob, eb⟩ := f4.trk a o' z
        have := fl4.2.1
        rw [eb] at this; cases this
      have y0 : X.s₀.heap.get? a = none := by
       cases z : X.s₀.heap.get? a with
       | none => rfl
       | some o' =>
        obtain ⟨o2, e2⟩ := Ia.base.there a o' z (by rw [T.ex]; simp)
        rw [young] at e2; cases e2
      have yL : a ≠ X.env.locals := fun z => by
       obtain ⟨m, ⟨o', _, _, ho', _⟩, _⟩ := Ia.loc
       rw [<- z, young] at ho'; cases ho'
      have yC : ∀ y c, X.env.cells.lookup y = some c -> c ≠ a := fun y c e z => by
       obtain ⟨v, o', ho', _⟩ := Ia.cell y c e
       rw [z, young] at ho'; cases ho'
      have yP : ∀ p ∈ X.pn ++ pins, p.1 ≠ a := fun p hp z => by
       have := (Ia.pin p hp).1
       rw [z, young] at this; cases this
      have xat : XAt a C h4 := ⟨oe, vs, he, hec, hed⟩
      have I5 : Inv X pins σ1 (upd H' a (.ext (XAt a C))) { s3 with heap := h4 } := I4.track y0 yL yC yP Ha ⟨xat, ⟨oe, he⟩, fun g1 g2 z k => by
       obtain ⟨o', vs', z1, z2, z3⟩ := z
       exact ⟨o', vs', k o' z1, z2, z3⟩⟩
      have x5 : Ext F1 H' (upd F1 a (.ext (XAt a C))) (upd H' a (.ext (XAt a C))) := Ext.laid rl1.fh Ha
      have rl5 := (rl1.go x5).set (i := i) (v := .ref a) (d := .exc c') (.exc xc upd_same)
      refine store_ok (X := X.inX a) I5.inX hN hi (.inl hl) (v := .ref a) rfl (fun s5 I6 => ?_) (.inr hl)
      let D2 : Ends := { nx := fun σ2 H2 => ∃ F2, Rl X.K F0 H0 F2 H2 σ2 ρ2 /\ Same F F2, rt := fun _ _ => False }
      refine wpAny_mono (hs a pins s5 _ _ D2 I6 ⟨F0, H0, _, _, _, rl5, h3, fun F2 H2 σ2 rl2 sf2 => ⟨F2, rl2, (sf1.trans x5.ff).trans sf2⟩⟩) (fun fl6 s6 h6 => ?_) fun _ _ z => by rw [show (X.inX a).xe = X.xe from rfl, nx] at z; exact z.elim
      cases fl6 with
      | next =>
       obtain ⟨σ6, H6, I7, F6, rl6, sf6⟩ := h6
       have I8 : Inv X pins σ6 H6 s6 := I7.outX I.ok
       obtain ⟨m, hn, hl0⟩ := id I8.loc
       refine wpAny_nameGoes_keeps hl hn (by rw [I.ok.kind]; rfl) fun h7 v hn7 hs7 => ?_
       exact ⟨_, H6, I8.gone hN hi hn hn7 hs7, ok F6 H6 _ (rl6.drop i) sf6⟩
      | brk => obtain ⟨_, _, _, z⟩ := h6; exact z.elim
      | cont => obtain ⟨_, _, _, z⟩ := h6; exact z.elim
      | ret u => obtain ⟨_, _, _, _, _, z⟩ := h6; exact z.elim
     | _ => cases e
   ·cases e
end
end
section
structure RoomN (k : Nat) (A : Around) : Prop where
 dp : A.depth + 3 * k + 5 < recursionLimit
 un : A.units + 16 * k + 200 < cLine
theorem Room.n {k : Nat} {A : Around} (r : Room k A) : RoomN k A := ⟨r.dp, r.un⟩
theorem RoomN.mono {j k : Nat} {A : Around} (r : RoomN k A) (h : j <= k) : RoomN j A := ⟨by have := r.dp; omega, by have := r.un; omega⟩
theorem RoomN.deeper {k : Nat} {A : Around} (r : RoomN (k + 1) A) (env : Env) : RoomN k (A.deeper env) :=
 ⟨by have := r.dp; show A.depth + 1 + 3 * k + 5 < _; omega, by have := r.un; show A.units + 3 + 16 * k + 200 < _; omega⟩
theorem RoomN.units {k : Nat} {A : Around} (r : RoomN k A) : A.units + 64 < cLine := by have := r.un; omega
theorem Room.mark {k : Nat} {A : Around} (r : Room k A) (v : Option Value) : RoomN k (A.mark v) := ⟨r.dp, r.un⟩
structure FnOkN (P : Program) (w : World) (K : W.Frag) (mg : Str -> Option Value) (base : Heap) (CX : CXT) (k : Nat) (f : Addr) (fd : FuncData) (ps : List Str) (sp : Sp) : Prop where
 len : ∀ vs H Q E, sp vs H Q E -> vs.length = ps.length
 run : ∀ (A : Around) (outer : List Env) (s : Shared) (H : Hp) (args : Args) (us : List Value) (vs : List V) (Q : VK) (E : XK), RoomN k A -> Env0 P w K mg base A outer s H -> BindsTo s fd args (ps.zip us) -> Vals vs us -> sp vs H Q E ->
  codeAny (model P w) A (.call (.ref f) args) (CR CX outer P w H s Q E) s
theorem FnOkN.mono {P : Program} {w : World} {K : W.Frag} {mg : Str -> Option Value} {base : Heap} {CX : CXT} {j k : Nat} {f : Addr} {fd : FuncData} {ps : List Str} {sp : Sp} (F : FnOkN P w K mg base CX j f fd ps sp) (h : j <= k) : FnOkN P w K mg base CX k f fd ps sp :=
 ⟨F.len, fun A outer s H args us vs Q E hr => F.run A outer s H args us vs Q E (hr.mono h)⟩
abbrev cxOfN (CX : CXT) (P : Program) (w : World) (K : W.Frag) (mg : Str -> Option Value) (base : Heap) (N : List Str) (qual : Str) (scope : Scope) (f : Addr) (cd : Value) (A : Around) (outer : List Env) (s : Shared) (H : Hp) (E : XK) : Cx :=
 { cxOf CX P w K mg base N qual scope f cd A outer s H E with calm := false }
theorem inv_startN {CX : CXT} {P : Program} {w : World} {K : W.Frag} {mg : Str -> Option Value} {base : Heap} {N ps : List Str} {qual : Str} {scope : Scope} {f : Addr} {cd : Value} {A : Around} {outer : List Env} {s s1 : Shared} {H : Hp} {E : XK} {us : List Value} {vs : List V}
  (S : FnScope N ps scope) (e0 : Env0 P w K mg base A outer s H) (hl : vs.length = ps.length) (r : Vals vs us)
  (x : InCallC s s.heap.objs.size (bindL (envOfC qual scope s.heap.objs.size f cd).kindOf (ps.zip us) fun _ => none) (cellsFrom (s.heap.objs.size + 1) scope.names []) (bindC (envOfC qual scope s.heap.objs.size f cd).kindOf (ps.zip us) fun _ => none) s1) :
  Inv (cxOfN CX P w K mg base N qual scope f cd A outer s H E) [] (start N vs) H s1 := by
 have e1 : Env0 P w K mg base { A with handled := none } outer s H := ⟨e0.frames, e0.mod, e0.bs, e0.bsz, e0.funs, e0.frf, e0.hok, e0.bare⟩
 have I := inv_start (CX := CX) (E := E) (A := { A with handled := none }) (qual := qual) (f := f) (cd := cd) S rfl e1 hl r x
 exact ⟨⟨I.ok.mod, I.ok.kind, I.ok.glob, I.ok.blt, I.ok.above, I.ok.inj, I.ok.has, I.ok.cab, (fun z => by cases z), Around.frames_deeper e0.frames, I.ok.stk, I.ok.exf, I.ok.bs, I.ok.bsz, I.ok.noex, I.ok.exfs, I.ok.funs, I.ok.frf⟩, I.os, I.bare, I.base, I.loc, I.cell, I.free, I.freeC, I.pin, I.hok, I.len⟩
theorem fn_ofN {CX : CXT} {P : Program} {w : World} {K : W.Frag} {mg : Str -> Option Value} {base : Heap} {k : Nat} {f : Addr} {name qual : Str} {params : Arguments} {body : List Stmt} {scope : Scope} {dV kV doc pm cdv ct oc : Value} {an od : Option Addr}
  {osl : Array (Option Value)} {N ps : List Str} {sp : Sp} (lk : K.lookup f = some ⟨oc, od, .func (W.fnOf name qual params body scope dV kV doc pm an cdv ct), osl⟩) (hcd : W.codeIn K cdv qual = true) (S : FnScope N ps scope)
  (len : ∀ vs H Q E, sp vs H Q E -> vs.length = ps.length)
  (hbody : ∀ (A : Around) (outer : List Env) (s : Shared) (H : Hp) (vs : List V) (Q : VK) (E : XK), RoomN k (A.deeper (envOfC qual scope s.heap.objs.size f cdv)) -> sp vs H Q E ->
   ∃ t, PSs (cxOfN CX P w K mg base N qual scope f cdv A outer s H E) body t /\ t { nx := fun _ H' => Q .non H', rt := Q } (start N vs) H) :
  FnOkN P w K mg base CX (k + 1) f (W.fnOf name qual params body scope dV kV doc pm an cdv ct) ps sp := by
 refine ⟨len, fun A outer s H args us vs Q E hr e0 hb r hsp => ?_⟩
 have hl := len _ _ _ _ hsp
 have KX : K.In s.heap := e0.mod.kin.keeps fun b o e => (e0.bs b o e).1
 have lim : s.heap.NoLimit := e0.mod.nolimit.keeps fun b o e => (e0.bs b o e).1
 have hkind : ∀ y ∈ ps.zip us, scope.names.lookup y.1 = some .local \/ (scope.names.lookup y.1 = some .cell /\ ((cellsFrom (s.heap.objs.size + 1) scope.names []).lookup y.1).isSome = true) := fun ⟨n, v⟩ hy => by
  rcases S.par n (of_mem_zip hy).1 with q | q
  ·exact .inl q
  ·exact .inr ⟨q, W.cellsFrom_some _ _ _ (.inl q)⟩
 refine codeAny_call_function (by have := hr.dp; omega) (KX _ _ lk) rfl S.co S.gen rfl (W.codeRec_of KX hcd) (hb _ _ _ _ ?_)
 refine wpAny_newFunctionEnv_cells S.kind hkind fun env he s1 x => ?_
 subst he
 refine ⟨lim.keeps x.toInCall.keep, codeAny_func ?_⟩
 obtain ⟨t, ht, hq⟩ := hbody A outer s H vs Q E (hr.deeper _) hsp
 have I : Inv (cxOfN CX P w K mg base N qual scope f cdv A outer s H E) [] (start N vs) H s1 := inv_startN S e0 hl r x
 refine wpAny_mono (ht [] s1 (start N vs) H _ I hq) (fun fl s' hs => ?_) fun e s' hs => hs
 have fin : ∀ {σ' : St} {H' : Hp} {v : V} {u : Value}, Inv (cxOfN CX P w K mg base N qual scope f cdv A outer s H E) [] σ' H' s' -> RelV v u -> Q v H' -> CE outer P w H s Q u s' :=
  fun {σ' H' v u} J rv q => ⟨v, H', J.os, J.bare, J.base, J.hok, rv, q⟩
 cases fl with
 | ret u =>
  obtain ⟨v, σ', H', J, rv, q⟩ := hs
  exact fin J rv q
 | next =>
  obtain ⟨σ', H', J, q⟩ := hs
  exact fin (v := V.non) (u := Value.none) J rfl q
 | brk =>
  obtain ⟨_, _, _, q⟩ := hs
  exact False.elim q
 | cont =>
  obtain ⟨_, _, _, q⟩ := hs
  exact False.elim q
theorem Fun.okN {P : Program} {w : World} {K : W.Frag} {mg : Str -> Option Value} {base : Heap} {x qual : Str} {st : Stmt} {f : Addr} {fd : FuncData} {N ps : List Str} {k : Nat} {m : MS} (Fn : Fun K x qual st f fd) (Sc : FnScope N ps (defScope st))
  (hbody : ∀ (cdv : Value) (A : Around) (outer : List Env) (s : Shared) (H : Hp) (E : XK), RoomN k (A.deeper (envOfC qual (defScope st) s.heap.objs.size f cdv)) -> PSsd (cxOfN CX0 P w K mg base N qual (defScope st) f cdv A outer s H E).nox (defBody st) m) :
  FnOkN P w K mg base CX0 (k + 1) f fd ps (spR K ps.length (runB N.length m)) := by
 obtain ⟨oc, od, kV, doc, pm, an, cdv, ct, osl, rfl, lk, hcd⟩ := Fn.ex
 refine fn_ofN lk hcd Sc (fun vs H Q E h => h.1) fun A outer s H vs Q E hr h => ?_
 obtain ⟨hl, F, ds, r, sf, rs, e, ok⟩ := h
 unfold runB at e
 cases h1 : m (startS N.length ds) with
 | none => rw [h1] at e; cases e
 | some o =>
  rw [h1] at e
  refine ⟨_, (hbody cdv A outer s H E hr).nox, F, H, F, startS N.length ds, o, rl_start sf rs, h1, ?_⟩
  cases o with
  | nx ρ => cases e; exact fun F' H' σ' rl _ => ok .non F' H' rl.ext .non
  | rt d => cases e; exact ok
  | rf es => cases e; exact ok
  | rp d es => cases e; exact ok
  | rg d p r => cases e
  | rgf d p r => cases e
  | bk ρ => cases e
  | ct ρ => cases e
section
variable {X : Cx} {CX : CXT} {k : Nat} {f : Addr} {fd : FuncData} {ps : List Str} {sp : Sp} {dvs : List V} {ds : List Value} {E : XK} {x : Str} {p pos : Pos} {e : Expr} {es : List Expr} {t : TA}
theorem pe_callN (F : FnOkN X.prog X.w X.K X.mg X.base CX k f fd ps sp) (hr : RoomN k X.A) (hg : Gl X x) (hm : X.mg x = some (.ref f)) (hk : W.keepIn X.K (.ref f) = true) (hb : Binds X.K fd ps ds) (hd : Vals dvs ds) (hx : Passes CX X E)
  (ha : PA X (e :: es) t) (hdb : (x == ("__debug__" : Str)) = false := by decide) (he : starEach (e :: es) X.env = (false, eval e X.env) :: starEach es X.env := by rfl) (hpl : (backTo pos (starEach es X.env)).any (·.1) = false := by rfl) :
  PE X (.Call (.Name x p) (e :: es) [] pos) (tCall sp dvs E t) := by
 intro pins s σ H Q I h
 refine wpAny_Call_Name_kw (ld_glob I hg hm ?_ hdb)
 refine W.callWith_K (h₀ := X.base) I.ok.mod.kin hk (thn (ha pos pins s σ H _ I h) fun us s1 ⟨vs, H1, I1, r, q⟩ => ⟨I1.kIn, ?_⟩) he hpl
 have r2 : Vals (vs ++ dvs) (us ++ ds) := r.append hd
 have hl : (us ++ ds).length = ps.length := by rw [<- r2.length]; exact F.len _ _ _ _ q
 refine wpAny_call (codeAny_mono (F.run X.A X.stack s1 H1 ⟨us, []⟩ (us ++ ds) (vs ++ dvs) Q E hr I1.env0 (hb s1 us I1.kIn hl) r2 q) fun r s' hq => ?_)
 cases r with
 | error e => exact hx pins σ H1 s1 e s' I1 hq
 | ok fl =>
  cases fl with
  | ret u => exact I1.after hq
  | next => exact False.elim hq
  | brk => exact False.elim hq
  | cont => exact False.elim hq
end
@[irreducible] def misX (tab : List (Str × Bool)) (m : ME) : ME := fun ρ => match m ρ with | some (.exc c) => (tab.lookup c).map .bl | _ => none
section
variable {X : Cx} {a : Expr} {ma : ME} {pos : Pos}
def rIsX (K : W.Frag) (cv : Value) (tab : List (Str × Bool)) (y : V) : List V -> Hp -> VK -> Prop := fun vs H Q => ∃ b c k, vs = [.ref b, y] /\ (∃ C, XC K c C /\ H b = some (.ext (XAt b C))) /\ tab.lookup c = some k /\ Q (.bl k) H
theorem call_isX {cv : Value} {y : V} {tab : List (Str × Bool)} (ry : ∀ u, RelV y u -> u = cv) (hk : ∀ c k, tab.lookup c = some k -> ∀ C, XC X.K c C -> XCls X.K C /\ W.kitOne X.K (.ref C) cv = some k) : CallR X (.builtin "isinstance") (rIsX X.K cv tab y) := by
 intro pins s σ H xs us Q I r h
 obtain ⟨b, c, k, rfl, ⟨C, xc, hb⟩, e, q⟩ := h
 obtain ⟨u, w, rfl, rx, r2⟩ := vals2 r
 cases rx
 cases ry w r2
 obtain ⟨z, kk⟩ := hk c k e C xc
 exact W.kia_one (kitx_exc z) I.kIn (I.xat hb) kk (fun z => nomatch z) fun tk => ⟨.bl k, H, I.tok _, rfl, q⟩
theorem isX_imp {cv : Value} {y : V} {tab : List (Str × Bool)} {ty : TE} (hy : ∀ σ H Q, Q y H -> ty σ H Q) {σ : St} {H : Hp} {Q : VK} (h : TD X.K (misX tab ma) σ H Q) : tCB (rIsX X.K cv tab y) (tCons (TD X.K ma) (tCons ty tNil)) σ H Q := by
 obtain ⟨F0, H0, F, ρ, g, rl, e, q⟩ := h
 unfold misX at e
 split at e
 ·rename_i c h1
  cases h2 : tab.lookup c with
  | none => rw [h2] at e; cases e
  | some k =>
   rw [h2] at e; cases e
   refine ⟨F0, H0, F, ρ, _, rl, h1, fun v F1 H1 x1 r1 => ?_⟩
   cases r1 with
   | exc xc hb => exact hy _ _ _ ⟨_, c, k, rfl, ⟨_, xc, x1.fh _ _ hb⟩, h2, q _ F1 H1 x1 (.bl _)⟩
 ·cases e
theorem pd_isX {c : Str} {Ca : Addr} {p p2 : Pos} {tab : List (Str × Bool)} (hg : Gl X "isinstance") (hm : X.mg "isinstance" = none) (hgc : Gl X c) (hmc : X.mg c = some (.ref Ca)) (ha : PD X a ma)
  (hk : ∀ c k, tab.lookup c = some k -> ∀ C, XC X.K c C -> XCls X.K C /\ W.kitOne X.K (.ref C) (.ref Ca) = some k) (hd : (c == ("__debug__" : Str)) = false := by decide)
  (hs : starEach (a :: [.Name c p2]) X.env = (false, eval a X.env) :: starEach [.Name c p2] X.env := by rfl) (hs2 : starEach [.Name c p2] X.env = (false, eval (.Name c p2) X.env) :: starEach [] X.env := by rfl)
  (hpl : (backTo pos (starEach [.Name c p2] X.env)).any (·.1) = false := by rfl) : PD X (.Call (.Name "isinstance" p) [a, .Name c p2] [] pos) (misX tab ma) :=
 (pe_callB (call_isX (y := .ref Ca) (cv := .ref Ca) (fun u z => z) hk) hg hm PyProof.Rows.boot_isinstance (pa_cons ha (pa_cons (pe_glob (v := .ref Ca) hgc hmc rfl hd) pa_nil hs2) hs) (by decide) (by decide) hs hpl).imp fun σ H Q h => isX_imp (fun _ _ _ z => z) h
theorem pd_isXB {c : Str} {T : String} {p p2 : Pos} {tab : List (Str × Bool)} (hg : Gl X "isinstance") (hm : X.mg "isinstance" = none) (hgc : Gl X c) (hmc : X.mg c = none) (hv : bootBuiltins c = some (.type T)) (ha : PD X a ma)
  (hk : ∀ c k, tab.lookup c = some k -> ∀ C, XC X.K c C -> XCls X.K C /\ W.kitOne X.K (.ref C) (.type T) = some k) (hn : c ≠ "__name__" := by decide) (hd : (c == ("__debug__" : Str)) = false := by decide)
  (hs : starEach (a :: [.Name c p2]) X.env = (false, eval a X.env) :: starEach [.Name c p2] X.env := by rfl) (hs2 : starEach [.Name c p2] X.env = (false, eval (.Name c p2) X.env) :: starEach [] X.env := by rfl)
  (hpl : (backTo pos (starEach [.Name c p2] X.env)).any (·.1) = false := by rfl) : PD X (.Call (.Name "isinstance" p) [a, .Name c p2] [] pos) (misX tab ma) :=
 (pe_callB (call_isX (y := .ty T) (cv := .type T) (fun u z => z) hk) hg hm PyProof.Rows.boot_isinstance (pa_cons ha (pa_cons (pe_bltn (v := .ty T) hgc hmc hv rfl hn hd) pa_nil hs2) hs) (by decide) (by decide) hs hpl).imp fun σ H Q h => isX_imp (fun _ _ _ z => z) h
end
def xclsB (K : W.Frag) (C : Addr) : Bool :=
 (W.findIn K (.ref C) "__getattribute__" == some (some (.builtin "BaseException.__getattribute__"))) && (W.findIn K (.ref C) "__getattr__" == some none) && (W.findIn K (.ref C) "__class__" == some (some (.builtin "object.__class__"))) &&
  (W.mroIn K C (.type "object") == some true) && (W.mroIn K C (.type "BaseException") == some true)
theorem xcls_of {K : W.Frag} {C : Addr} (h : xclsB K C = true) : XCls K C := by
 unfold xclsB at h
 simp only [Bool.and_eq_true, beq_iff_eq] at h
 exact ⟨h.1.1.1.1, h.1.1.1.2, h.1.1.2, h.1.2, h.2⟩
theorem XC.eq {K : W.Frag} {c : Str} {C x : Addr} (h : XC K c C) (e : W.nsIn K mainGlobals c = some (some (.ref x))) : C = x := by
 have := h.1.symm.trans e
 cases this; rfl
theorem lookup_all {P : Str -> Bool -> Prop} : ∀ {tab : List (Str × Bool)}, (∀ p ∈ tab, P p.1 p.2) -> ∀ c k, tab.lookup c = some k -> P c k := fun h c k e => h (c, k) (PySem.mem_of_lookup e)
end
section
section
variable {X : Cx} {a : Expr} {ma : ME} {pos : Pos}
open PySem.SeqAt in
end
end
section
section
variable {X : Cx} {pos : Pos}
end
end
section
section
variable {X : Cx} {v : Expr} {mv : ME} {pos : Pos}
end
theorem us1 {P : List Value -> Prop} (h : ∀ a, P [a]) : ∀ us : List Value, us.length = 1 -> P us
 | [a], _ => h a
theorem us2 {P : List Value -> Prop} (h : ∀ a b, P [a, b]) : ∀ us : List Value, us.length = 2 -> P us
 | [a, b], _ => h a b
theorem us3 {P : List Value -> Prop} (h : ∀ a b c, P [a, b, c]) : ∀ us : List Value, us.length = 3 -> P us
 | [a, b, c], _ => h a b c
theorem us4 {P : List Value -> Prop} (h : ∀ a b c d, P [a, b, c, d]) : ∀ us : List Value, us.length = 4 -> P us
 | [a, b, c, d], _ => h a b c d
end
section
def insI (a : Int) : List Int -> List Int
 | [] => [a]
 | b :: r => if a <= b then a :: b :: r else b :: insI a r
def isort : List Int -> List Int
 | [] => []
 | a :: r => insI a (isort r)
theorem insI_perm (a : Int) : ∀ r, (insI a r).Perm (a :: r)
 | [] => .refl _
 | b :: r => by
  unfold insI
  split
  ·exact .refl _
  ·exact ((insI_perm a r).cons b).trans (.swap a b r)
theorem isort_perm : ∀ ns, (isort ns).Perm ns
 | [] => .refl _
 | a :: r => (insI_perm a _).trans ((isort_perm r).cons a)
theorem insI_sorted (a : Int) : ∀ r, r.Pairwise (· <= ·) -> (insI a r).Pairwise (· <= ·)
 | [], _ => pairwise_singleton ..
 | b :: r, h => by
  have h' := List.pairwise_cons.mp h
  unfold insI
  split
  ·rename_i hab
   refine List.pairwise_cons.mpr ⟨fun x hx => ?_, h⟩
   rcases List.mem_cons.mp hx with e | hx
   ·rw [e]; exact hab
   ·exact Int.le_trans hab (h'.1 x hx)
  ·rename_i hab
   refine List.pairwise_cons.mpr ⟨fun x hx => ?_, insI_sorted a r h'.2⟩
   rcases List.mem_cons.mp ((insI_perm a r).mem_iff.mp hx) with e | hx
   ·rw [e]; omega
   ·exact h'.1 x hx
theorem isort_sorted : ∀ ns, (isort ns).Pairwise (· <= ·)
 | [] => .nil
 | a :: r => insI_sorted a _ (isort_sorted r)
theorem sorted_uniq : ∀ {a b : List Int}, a.Perm b -> a.Pairwise (· <= ·) -> b.Pairwise (· <= ·) -> a = b
 | [], b, p, _, _ => (List.Perm.nil_eq p)
 | x :: a, [], p, _, _ => absurd p.length_eq (by simp)
 | x :: a, y :: b, p, ha, hb => by
  have h1 := List.pairwise_cons.mp ha
  have h2 := List.pairwise_cons.mp hb
  have e : x = y := by
   have m1 : x ∈ y :: b := p.mem_iff.mp mem_cons_self
   have m2 : y ∈ x :: a := p.mem_iff.mpr mem_cons_self
   rcases List.mem_cons.mp m1 with e | m1
   ·exact e
   ·rcases List.mem_cons.mp m2 with e | m2
    ·exact e.symm
    ·have := h2.1 x m1
     have := h1.1 y m2
     omega
  subst e
  rw [sorted_uniq ((perm_cons x).mp p) h1.2 h2.2]
theorem isort_length (ns : List Int) : (isort ns).length = ns.length := (isort_perm ns).length_eq
theorem ints_vals : ∀ {ns : List Int} {its : List Value}, Vals (ns.map V.int) its -> IntsAre its ns
 | [], _, .nil => .nil
 | n :: ns, _, .cons r t => by
  obtain ⟨k, rfl⟩ := r
  exact .cons n k (ints_vals t)
theorem vals_intsA : ∀ {ns : List Int} {its : List Value}, IntsAre its ns -> Vals (ns.map V.int) its
 | [], _, .nil => .nil
 | n :: ns, _, .cons _ k t => .cons ⟨k, rfl⟩ (vals_intsA t)
section
variable {X : Cx} {e : Expr} {pos : Pos}
end
end
section
section
variable {X : Cx} {pins : List (Addr × Obj)} {σ : St}
end
end
section
inductive RPs (K : W.Frag) (F H : Hp) : List Addr -> List (List D) -> Prop
 | nil : RPs K F H [] []
 | cons {q : Addr} {xs : List V} {ds : List D} {qs : List Addr} {dss : List (List D)} : H q = some (.lst xs) -> Reps K F xs ds -> RPs K F H qs dss -> RPs K F H (q :: qs) (ds :: dss)
section
variable {K : W.Frag} {F H F' H' : Hp}
theorem RPs.mono (e : Same F F') (k : Same H H') : ∀ {qs : List Addr} {dss : List (List D)}, RPs K F H qs dss -> RPs K F' H' qs dss
 | _, _, .nil => .nil
 | _, _, .cons h r t => .cons (k _ _ h) (r.mono e) (RPs.mono e k t)
theorem RPs.keep (e : Same F F') : ∀ {qs : List Addr} {dss : List (List D)}, (∀ q ∈ qs, ∀ o, H q = some o -> H' q = some o) -> RPs K F H qs dss -> RPs K F' H' qs dss
 | _, _, _, .nil => .nil
 | _, _, k, .cons h r t => .cons (k _ mem_cons_self _ h) (r.mono e) (RPs.keep e (fun q hq => k q (mem_cons_of_mem _ hq)) t)
theorem RPs.snoc {q : Addr} {xs : List V} {ds : List D} (h : H q = some (.lst xs)) (r : Reps K F xs ds) : ∀ {qs : List Addr} {dss : List (List D)}, RPs K F H qs dss -> RPs K F H (qs ++ [q]) (dss ++ [ds])
 | _, _, .nil => .cons h r .nil
 | _, _, .cons a b t => .cons a b (RPs.snoc h r t)
theorem RPs.length : ∀ {qs : List Addr} {dss : List (List D)}, RPs K F H qs dss -> qs.length = dss.length
 | _, _, .nil => rfl
 | _, _, .cons _ _ t => congrArg (· + 1) (RPs.length t)
theorem RPs.get : ∀ {qs : List Addr} {dss : List (List D)} {i : Nat} {ds : List D}, RPs K F H qs dss -> dss[i]? = some ds -> ∃ q xs, qs[i]? = some q /\ H q = some (.lst xs) /\ Reps K F xs ds
 | _, _, _, _, .nil, e => by simp at e
 | _, _, 0, _, .cons a b _, e => by simp at e; subst e; exact ⟨_, _, rfl, a, b⟩
 | _, _, i + 1, ds, .cons _ _ t, e => by
  obtain ⟨q, xs, h1, h2⟩ := RPs.get (i := i) (ds := ds) t (by simpa using e)
  exact ⟨q, xs, by simpa using h1, h2⟩
theorem RPs.some : ∀ {qs : List Addr} {dss : List (List D)}, RPs K F H qs dss -> ∀ q ∈ qs, ∃ o, H q = some o
 | _, _, .cons a _ t, q, hq => by
  rcases List.mem_cons.mp hq with e | hq
  ·rw [e]; exact ⟨_, a⟩
  ·exact RPs.some t q hq
end
structure Pots (K : W.Frag) (H F' H' : Hp) (p : Addr) (qs : List Addr) (dss : List (List D)) : Prop where
 hp : H p = none
 fp : F' p = none
 at' : H' p = some (.lst (qs.map V.ref))
 new : ∀ q ∈ qs, H q = none /\ F' q = none
 nd : (p :: qs).Nodup
 rep : RPs K F' H' qs dss
theorem Ext.stays {F H F' H' : Hp} {p : Addr} {o : HO} (x : Ext F H F' H') (hF : F p = none) (hH : H p = some o) : F' p = none := by
 cases q : F' p with
 | none => rfl
 | some u => have := x.new p hF (by rw [q]; simp); rw [this] at hH; cases hH
section
variable {X : Cx} {a b c e : Expr} {pos : Pos}
end
end
section
section
variable {K : W.Frag} {F0 H0 H0' F H : Hp} {σ : St} {ρ : Ro}
end
section
variable {X : Cx} {a b c e : Expr} {pos : Pos} {st : Stmt}
variable {E : XK} {es : List Expr} {m : ML}
end
end
section
section
variable {K : W.Frag} {F0 H0 F H : Hp} {σ : St} {ρ : Ro}
end
end
section
section
variable {X : Cx} {a b : Expr} {ma mb : ME} {pos : Pos}
end
section
variable {X : Cx} {a b : Expr}
open PySem.SeqAt in
end
end
section
section
variable {X : Cx} {a b c e o : Expr} {ma mb mo : ME} {pos : Pos} {st : Stmt}
end
open Classical in
section
variable {X : Cx} {pos : Pos}
end
end
section
section
variable {X : Cx} {st : Stmt}
end
end
section
inductive Fl where
 | v (d : D) | l (ds : List D)
inductive Cell where
 | ins (c : Str) (ns : List Str) (fs : List Fl)
 | row (fs : List Fl)
 | tb (P : Addr) (mw : Str) (pos : Pos) (q : Str)
def CodeAt (c : Addr) (q : Str) : Heap -> Prop := fun h => h.CodeRec (.ref c) q
structure CodeT (K : W.Frag) (cdv : Value) (P : Addr) : Prop where
 hd : ∃ c, cdv = .ref c /\ ∀ h : Heap, K.In h -> W.CodeHd h c P
 ne : mainGlobals ≠ P
def TabF (K : W.Frag) (mw : Str) (P : Addr) : Prop := ∃ f oc od fd sl, W.nsIn K mainGlobals mw = some (some (.ref f)) /\ K.lookup f = some ⟨oc, od, .func fd, sl⟩ /\ CodeT K fd.code P
abbrev Bx := List (Addr × Cell)
inductive FlR (K : W.Frag) (F B : Hp) : List Addr -> List V -> List Fl -> Prop
 | nil : FlR K F B [] [] []
 | v {fp : List Addr} {x : V} {d : D} {xs : List V} {fs : List Fl} : Rep K F x d -> FlR K F B fp xs fs -> FlR K F B fp (x :: xs) (.v d :: fs)
 | l {fp : List Addr} {q : Addr} {ys : List V} {ds : List D} {xs : List V} {fs : List Fl} : B q = some (.lst ys) -> Reps K F ys ds -> FlR K F B fp xs fs -> FlR K F B (q :: fp) (.ref q :: xs) (.l ds :: fs)
inductive CellR (K : W.Frag) (F B : Hp) : List Addr -> Addr -> Cell -> Prop
 | ins {fp : List Addr} {p dx C : Addr} {c : Str} {ns : List Str} {xs : List V} {fs : List Fl} : W.nsIn K mainGlobals c = some (some (.ref C)) -> ns.length = xs.length -> B p = some (.ins C dx (ns.zip xs)) -> B dx = some (.own p) -> FlR K F B fp xs fs ->
   CellR K F B (p :: dx :: fp) p (.ins c ns fs)
 | row {fp : List Addr} {p : Addr} {xs : List V} {fs : List Fl} : B p = some (.lst xs) -> FlR K F B fp xs fs -> CellR K F B (p :: fp) p (.row fs)
 | tb {P : Addr} {mw : Str} {pos : Pos} {q : Str} {ps : Array Value} : TabF K mw P -> B P = some (.tbl ps) -> TriplesOk ps.toList -> (codeAmong pos ps.toList = none \/ ∃ c, codeAmong pos ps.toList = some (.ref c) /\ F c = some (.ext (CodeAt c q))) -> CellR K F B [P] P (.tb P mw pos q)
inductive BxR (K : W.Frag) (F B : Hp) : List Addr -> Bx -> Prop
 | nil : BxR K F B [] []
 | cons {fp fq : List Addr} {p : Addr} {c : Cell} {β : Bx} : CellR K F B fp p c -> BxR K F B fq β -> BxR K F B (fp ++ fq) ((p, c) :: β)
section
variable {K : W.Frag} {F F' B B' : Hp}
theorem FlR.mono (e : Same F F') {fp : List Addr} {xs : List V} {fs : List Fl} (h : FlR K F B fp xs fs) (k : ∀ a ∈ fp, B' a = B a) : FlR K F' B' fp xs fs := by
 induction h with
 | nil => exact .nil
 | v r _ ih => exact .v (r.mono e) (ih k)
 | l b r _ ih => exact .l (by rw [k _ (by simp)]; exact b) (r.mono e) (ih fun a ha => k a (mem_cons_of_mem _ ha))
theorem CellR.mono (e : Same F F') {fp : List Addr} {p : Addr} {c : Cell} (h : CellR K F B fp p c) (k : ∀ a ∈ fp, B' a = B a) : CellR K F' B' fp p c := by
 cases h with
 | ins a l b d r => exact .ins a l (by rw [k _ (by simp)]; exact b) (by rw [k _ (by simp)]; exact d) (r.mono e fun a ha => k a (by simp [ha]))
 | row b r => exact .row (by rw [k _ (by simp)]; exact b) (r.mono e fun a ha => k a (by simp [ha]))
 | tb a b t h => exact .tb a (by rw [k _ (by simp)]; exact b) t (h.imp id fun ⟨c, h1, h2⟩ => ⟨c, h1, e _ _ h2⟩)
theorem BxR.mono (e : Same F F') {fp : List Addr} {β : Bx} (h : BxR K F B fp β) (k : ∀ a ∈ fp, B' a = B a) : BxR K F' B' fp β := by
 induction h with
 | nil => exact .nil
 | cons c _ ih => exact .cons (c.mono e fun a ha => k a (by simp [ha])) (ih fun a ha => k a (by simp [ha]))
theorem FlR.mem {fp : List Addr} {xs : List V} {fs : List Fl} (h : FlR K F B fp xs fs) : ∀ a ∈ fp, B a ≠ none := by
 induction h with
 | nil => intro a ha; cases ha
 | v _ _ ih => exact ih
 | l b _ _ ih =>
  intro a ha
  rcases List.mem_cons.mp ha with rfl | ha
  ·rw [b]; simp
  ·exact ih a ha
theorem CellR.mem {fp : List Addr} {p : Addr} {c : Cell} (h : CellR K F B fp p c) : ∀ a ∈ fp, B a ≠ none := by
 intro a ha
 cases h with
 | ins _ _ b d r =>
  rcases List.mem_cons.mp ha with rfl | ha
  ·rw [b]; simp
  ·rcases List.mem_cons.mp ha with rfl | ha
   ·rw [d]; simp
   ·exact r.mem a ha
 | row b r =>
  rcases List.mem_cons.mp ha with rfl | ha
  ·rw [b]; simp
  ·exact r.mem a ha
 | tb _ b _ _ => rw [List.mem_singleton.mp ha, b]; simp
theorem BxR.mem {fp : List Addr} {β : Bx} (h : BxR K F B fp β) : ∀ a ∈ fp, B a ≠ none := by
 induction h with
 | nil => intro a ha; cases ha
 | cons c _ ih =>
  intro a ha
  rcases List.mem_append.mp ha with ha | ha
  ·exact c.mem a ha
  ·exact ih a ha
end
def jn (H0 B : Hp) : Hp := fun a => match B a with | some o => some o | none => H0 a
theorem jn_some {H0 B : Hp} {a : Addr} {o : HO} (h : B a = some o) : jn H0 B a = some o := by unfold jn; rw [h]
theorem jn_none {H0 B : Hp} {a : Addr} (h : B a = none) : jn H0 B a = H0 a := by unfold jn; rw [h]
theorem jn_free {H0 B : Hp} {a : Addr} (h : jn H0 B a = none) : B a = none /\ H0 a = none := by
 cases b : B a with
 | none => rw [jn_none b] at h; exact ⟨rfl, h⟩
 | some o => rw [jn_some b] at h; cases h
structure BxOk (K : W.Frag) (F0 H0 F B : Hp) (fp : List Addr) (β : Bx) : Prop where
 out : ∀ a, B a ≠ none -> H0 a = none /\ F0 a = none
 bx : BxR K F B fp β
 nd : fp.Nodup
 plain : ∀ a o u, B a ≠ some (.frz o u)
theorem BxOk.mono {K : W.Frag} {F0 H0 F F' B : Hp} {fp : List Addr} {β : Bx} (h : BxOk K F0 H0 F B fp β) (e : Same F F') : BxOk K F0 H0 F' B fp β := ⟨h.out, h.bx.mono e fun _ _ => rfl, h.nd, h.plain⟩
def RlW (K : W.Frag) (F0 H0 F H : Hp) (σ : St) (ρ : Ro) (β : Bx) : Prop := ∃ B fp, Rl K F0 (jn H0 B) F H σ ρ /\ BxOk K F0 H0 F B fp β
abbrev MW := Ro -> Bx -> Option (Out × Bx)
def okW (K : W.Frag) (F0 H0 Fb : Hp) (Dn : Ends) : Out -> Bx -> Prop
 | .nx ρ, β => ∀ F H σ, RlW K F0 H0 F H σ ρ β -> Same Fb F -> Dn.nx σ H
 | .bk ρ, β => ∀ F H σ, RlW K F0 H0 F H σ ρ β -> Same Fb F -> Dn.bk σ H
 | .ct ρ, β => ∀ F H σ, RlW K F0 H0 F H σ ρ β -> Same Fb F -> Dn.ct σ H
 | .rt d, β => ∀ v F H B fp, Ext F0 (jn H0 B) F H -> BxOk K F0 H0 F B fp β -> Rep K F v d -> Dn.rt v H
 | .rf ds, β => ∀ p xs F H B fp, Ext F0 (jn H0 B) F H -> BxOk K F0 H0 F B fp β -> jn H0 B p = none -> F p = none -> H p = some (.lst xs) -> Reps K F xs ds -> Dn.rt (.ref p) H
 | .rg d p r, β => ∀ v F H xs B fp, Ext F0 (jn H0 B) F H -> BxOk K F0 H0 F B fp β -> Rep K F v d -> jn H0 B p = none -> F p = none -> H p = some (.lst xs) -> Reps K F xs r -> Dn.rt v H
 | .rp _ _, _ => False
 | .rgf _ _ _, _ => False
theorem okW.mono {K : W.Frag} {F0 H0 Fb Fb' : Hp} {Dn : Ends} (s : Same Fb Fb') : ∀ {o : Out} {β : Bx}, okW K F0 H0 Fb Dn o β -> okW K F0 H0 Fb' Dn o β
 | .nx _, _, h => fun F H σ rl q => h F H σ rl (s.trans q)
 | .bk _, _, h => fun F H σ rl q => h F H σ rl (s.trans q)
 | .ct _, _, h => fun F H σ rl q => h F H σ rl (s.trans q)
 | .rt _, _, h => h
 | .rf _, _, h => h
 | .rp _ _, _, h => h
 | .rg _ _ _, _, h => h
 | .rgf _ _ _, _, h => h
def TSw (K : W.Frag) (m : MW) : TS := fun Dn σ H => ∃ F0 H0 F ρ β o β', RlW K F0 H0 F H σ ρ β /\ m ρ β = some (o, β') /\ okW K F0 H0 F Dn o β'
def PSsw (X : Cx) (st : List Stmt) (m : MW) : Prop := PSs X st (TSw X.K m)
theorem RlW.go {K : W.Frag} {F0 H0 F H F' H' : Hp} {σ : St} {ρ : Ro} {β : Bx} (h : RlW K F0 H0 F H σ ρ β) (e : Ext F H F' H') : RlW K F0 H0 F' H' σ ρ β := let ⟨B, fp, rl, ok⟩ := h; ⟨B, fp, rl.go e, ok.mono e.ff⟩
theorem RlW.fh {K : W.Frag} {F0 H0 F H : Hp} {σ : St} {ρ : Ro} {β : Bx} (h : RlW K F0 H0 F H σ ρ β) : Same F H := let ⟨_, _, rl, _⟩ := h; rl.fh
section
variable {X : Cx} {a b c e : Expr} {pos : Pos} {st : Stmt} {rest : List Stmt}
def flD : Fl -> D
 | .v d => d
 | .l ds => .lst ds
def cellD : Cell -> D
 | .ins c ns fs => .obj c ns (fs.map flD)
 | .row fs => .lst (fs.map flD)
 | .tb P _ _ _ => .ptr P
end
section
variable {K : W.Frag} {F0 H0 F H B : Hp} {σ : St} {ρ : Ro} {β : Bx} {fp : List Addr}
theorem FlR.rep {G : Hp} {xs : List V} {fs : List Fl} (hF : Same F G) (hB : Same B G) (h : FlR K F B fp xs fs) : Reps K G xs (fs.map flD) := by
 induction h with
 | nil => exact .nil
 | v r _ ih => exact .cons (r.mono hF) ih
 | l b r _ ih => exact .cons (.lst (SqL.of (hB _ _ b)) (r.mono hF)) ih
theorem CellR.rep {G : Hp} {p : Addr} {c : Cell} (hF : Same F G) (hB : Same B G) (h : CellR K F B fp p c) : Rep K G (.ref p) (cellD c) := by
 cases h with
 | ins a l b d r => exact .obj a l (hB _ _ b) (hB _ _ d) (r.rep hF hB)
 | row b r => exact .lst (SqL.of (hB _ _ b)) (r.rep hF hB)
 | tb _ _ _ _ => exact .ptr _
theorem BxR.at' {p : Addr} {c : Cell} : ∀ {fp : List Addr} {β : Bx}, BxR K F B fp β -> β.lookup p = some c -> ∃ fq, CellR K F B fq p c
 | _, _, .nil, e => by cases e
 | _, _, .cons (p := q) h r, e => by
  rw [lookup_cons] at e
  split at e
  ·rename_i z
   have z := beq_iff_eq.mp z
   subst z
   cases e
   exact ⟨_, h⟩
  ·exact r.at' e
end
section
variable {X : Cx} {a b c e : Expr} {pos : Pos}
end
end
section
def cut (H B : Hp) : Hp := fun a => match B a with | some _ => none | none => H a
theorem cut_in {H B : Hp} {a : Addr} (h : B a ≠ none) : cut H B a = none := by
 unfold cut
 cases q : B a with
 | none => exact absurd q h
 | some o => rfl
theorem cut_out {H B : Hp} {a : Addr} (h : B a = none) : cut H B a = H a := by unfold cut; rw [h]
theorem jn_cut {H B : Hp} (h : Same B H) : jn (cut H B) B = H := by
 funext a
 cases q : B a with
 | none => rw [jn_none q, cut_out q]
 | some o => rw [jn_some q, h a o q]
abbrev MFW := List D -> Bx -> Option (Rt × Bx)
def okTW (K : W.Frag) (F H B : Hp) (Q : VK) : Rt -> Bx -> Prop
 | .sh d, β => ∀ v F' H' B' fp', Ext F (jn (cut H B) B') F' H' -> BxOk K F (cut H B) F' B' fp' β -> Rep K F' v d -> Q v H'
 | .fr ds, β => ∀ p xs F' H' B' fp', Ext F (jn (cut H B) B') F' H' -> BxOk K F (cut H B) F' B' fp' β -> jn (cut H B) B' p = none -> F' p = none -> H' p = some (.lst xs) -> Reps K F' xs ds -> Q (.ref p) H'
 | .pr _ _, _ => False
def spW (K : W.Frag) (n : Nat) (m : MFW) : Sp := fun vs H Q _ => vs.length = n /\ ∃ F B fp ds β r β', Same F H /\ Same B H /\ BxOk K F (cut H B) F B fp β /\ Reps K F vs ds /\ m ds β = some (r, β') /\ okTW K F H B Q r β'
def runW (n : Nat) (m : MW) : MFW := fun ds β => match m (startS n ds) β with
 | some (.nx _, β') => some (.sh .non, β'.drop (β'.length - β.length))
 | some (.rt d, β') => some (.sh d, β'.drop (β'.length - β.length))
 | some (.rf es, β') => some (.fr es, β'.drop (β'.length - β.length))
 | _ => none
theorem BxR.drop {K : W.Frag} {F B : Hp} : ∀ {fp : List Addr} {β : Bx} (k : Nat), BxR K F B fp β -> ∃ fq, BxR K F B fq (β.drop k) /\ fq.Sublist fp
 | _, _, 0, h => ⟨_, h, List.Sublist.refl _⟩
 | _, _, k + 1, .nil => ⟨_, .nil, List.Sublist.refl _⟩
 | _, _, k + 1, .cons c r => by
  obtain ⟨fq, h, s⟩ := BxR.drop k r
  exact ⟨fq, h, s.trans (sublist_append_right _ _)⟩
theorem BxOk.drop {K : W.Frag} {F0 H0 F B : Hp} {fp : List Addr} {β : Bx} (h : BxOk K F0 H0 F B fp β) (k : Nat) : ∃ fq, BxOk K F0 H0 F B fq (β.drop k) := by
 obtain ⟨fq, r, s⟩ := h.bx.drop k
 exact ⟨fq, h.out, r, h.nd.sublist s, h.plain⟩
theorem Fun.okW {P : Program} {w : World} {K : W.Frag} {mg : Str -> Option Value} {base : Heap} {x qual : Str} {st : Stmt} {f : Addr} {fd : FuncData} {N ps : List Str} {k : Nat} {m : MW} (Fn : Fun K x qual st f fd) (Sc : FnScope N ps (defScope st))
  (hbody : ∀ (cdv : Value) (A : Around) (outer : List Env) (s : Shared) (H : Hp) (E : XK), Room k (A.deeper (envOfC qual (defScope st) s.heap.objs.size f cdv)) -> PSsw (cxOf CX0 P w K mg base N qual (defScope st) f cdv A outer s H E).nox (defBody st) m) :
  FnOk P w K mg base CX0 (k + 1) f fd ps (spW K ps.length (runW N.length m)) := by
 refine Fn.ok Sc (fun vs H Q E h => h.1) fun cdv A outer s H vs Q E hr h => ?_
 obtain ⟨hl, F, B, fp, ds, β, r, β', sf, sb, bo, rs, e, ok⟩ := h
 unfold runW at e
 refine ⟨_, hbody cdv A outer s H E hr, F, cut H B, F, startS N.length ds, β, ?_⟩
 have start : RlW K F (cut H B) F H (start N vs) (startS N.length ds) β := ⟨B, fp, by rw [jn_cut sb]; exact rl_start sf rs, bo⟩
 split at e
 ·rename_i ρ β1 h1
  cases e
  refine ⟨_, _, start, h1, fun F' H' σ' rl _ => ?_⟩
  obtain ⟨B', fp', rl', k'⟩ := rl
  obtain ⟨fq, k2⟩ := k'.drop (β1.length - β.length)
  exact ok .non F' H' B' fq rl'.ext k2 .non
 ·rename_i d β1 h1
  cases e
  refine ⟨_, _, start, h1, fun v F' H' B' fp' x k' rp => ?_⟩
  obtain ⟨fq, k2⟩ := k'.drop (β1.length - β.length)
  exact ok v F' H' B' fq x k2 rp
 ·rename_i es β1 h1
  cases e
  refine ⟨_, _, start, h1, fun p xs F' H' B' fp' x k' a1 a2 a3 a4 => ?_⟩
  obtain ⟨fq, k2⟩ := k'.drop (β1.length - β.length)
  exact ok p xs F' H' B' fq x k2 a1 a2 a3 a4
 ·cases e
section
variable {K : W.Frag} {F0 H0 F H B : Hp} {σ : St} {ρ : Ro} {β : Bx} {fp : List Addr}
theorem BxOk.call (rl : Rl K F0 (jn H0 B) F H σ ρ) (ok : BxOk K F0 H0 F B fp β) : Same B H /\ BxOk K F (cut H B) F B fp β := by
 have bh : Same B H := fun a o e => rl.ext.hh a o (jn_some e)
 refine ⟨bh, fun a h => ⟨cut_in h, ?_⟩, ok.bx, ok.nd, ok.plain⟩
 cases q : F a with
 | none => rfl
 | some o =>
  have := rl.ext.new a (ok.out a h).2 (by rw [q]; simp)
  exact absurd (jn_free this).1 h
theorem RlW.back' {F' H' B' : Hp} {fp' : List Addr} {β' : Bx} (rl : Rl K F0 (jn H0 B) F H σ ρ) (ok : BxOk K F0 H0 F B fp β) (x : Ext F (jn (cut H B) B') F' H') (ok' : BxOk K F (cut H B) F' B' fp' β') : Rl K F0 (jn H0 B') F' H' σ ρ /\ BxOk K F0 H0 F' B' fp' β' := by
 have h0 : ∀ a o, H0 a = some o -> B a = none /\ H a = some o /\ B' a = none := fun a o e => by
  have b : B a = none := by
   cases q : B a with
   | none => rfl
   | some u => have := (ok.out a (by rw [q]; simp)).1; rw [this] at e; cases e
  have h := rl.ext.hh a o (by rw [jn_none b]; exact e)
  refine ⟨b, h, ?_⟩
  cases q : B' a with
  | none => rfl
  | some u => have := (ok'.out a (by rw [q]; simp)).1; rw [cut_out b, h] at this; cases this
 have mine : ∀ p xs, jn H0 B p = none -> F p = none -> H p = some (.lst xs) -> F' p = none /\ jn H0 B' p = none /\ H' p = some (.lst xs) := fun p xs e1 e2 e3 => by
  obtain ⟨b, h⟩ := jn_free e1
  have c : cut H B p = some (.lst xs) := by rw [cut_out b]; exact e3
  have b' : B' p = none := by
   cases q : B' p with
   | none => rfl
   | some u => have := (ok'.out p (by rw [q]; simp)).1; rw [c] at this; cases this
  have j : jn (cut H B) B' p = some (.lst xs) := by rw [jn_none b']; exact c
  refine ⟨?_, by rw [jn_none b']; exact h, x.hh p _ j⟩
  cases q : F' p with
  | none => rfl
  | some u => have := x.new p e2 (by rw [q]; simp); rw [j] at this; cases this
 refine ⟨⟨⟨rl.ext.ff.trans x.ff, fun a o e => ?_, x.fh, fun b e n => ?_, fun b o u e => rl.ext.nf b o u (x.nf b o u e)⟩, rl.len, fun i d e => ?_, fun i ds e => ?_, rl.inj, fun i p ds e => ?_, rl.obn, rl.ob1⟩, fun a h => ⟨?_, ?_⟩, ok'.bx, ok'.nd, ok'.plain⟩
 ·cases q : B' a with
  | some u => rw [jn_some q] at e; cases e; exact x.hh a _ (jn_some q)
  | none =>
   rw [jn_none q] at e
   obtain ⟨b, h, _⟩ := h0 a o e
   exact x.hh a o (by rw [jn_none q, cut_out b]; exact h)
 ·cases q1 : F b with
  | none =>
   obtain ⟨b', c⟩ := jn_free (x.new b q1 n)
   rw [jn_none b']
   cases q : H0 b with
   | none => rfl
   | some o => obtain ⟨z, h, _⟩ := h0 b o q; rw [cut_out z, h] at c; cases c
  | some o =>
   have := rl.ext.new b e (by rw [q1]; simp)
   obtain ⟨_, h⟩ := jn_free this
   cases q : B' b with
   | none => rw [jn_none q]; exact h
   | some u => have := (ok'.out b (by rw [q]; simp)).2; rw [q1] at this; cases this
 ·obtain ⟨v, a1, a2⟩ := rl.sh i d e
  exact ⟨v, a1, a2.mono x.ff⟩
 ·obtain ⟨p, xs, a1, a2, a3, a4, a5⟩ := rl.own i ds e
  obtain ⟨b1, b2, b3⟩ := mine p xs a5 a2 a3
  exact ⟨p, xs, a1, b1, b3, a4.mono x.ff, b2⟩
 ·obtain ⟨a1, a2, a3, xs, a4, a5⟩ := rl.ob i p ds e
  obtain ⟨b1, b2, b3⟩ := mine p xs a3 a2 a4
  exact ⟨a1, b1, b2, xs, b3, a5.mono x.ff⟩
 ·cases q : H0 a with
  | none => rfl
  | some o => exact absurd (h0 a o q).2.2 h
 ·cases q : F0 a with
  | none => rfl
  | some o => have := (ok'.out a h).2; rw [rl.ext.ff a o q] at this; cases this
theorem RlW.back {F' H' B' : Hp} {fp' : List Addr} {β' : Bx} (rl : Rl K F0 (jn H0 B) F H σ ρ) (ok : BxOk K F0 H0 F B fp β) (x : Ext F (jn (cut H B) B') F' H') (ok' : BxOk K F (cut H B) F' B' fp' β') : RlW K F0 H0 F' H' σ ρ β' := let ⟨a, b⟩ := RlW.back' rl ok x ok'; ⟨B', fp', a, b⟩
end
section
variable {X : Cx} {a b c e o : Expr} {pos : Pos} {st : Stmt} {rest : List Stmt} {E : XK} {es : List Expr} {mf : MFW} {m : ML}
end
end
section
section
variable {X : Cx} {a b c e o : Expr} {pos apos : Pos} {E : XK} {es : List Expr} {m : ML} {mo : ME}
end
def updB (p : Addr) (c' : Cell) : Bx -> Bx
 | [] => []
 | (q, c) :: β => if q = p then (q, c') :: β else (q, c) :: updB p c' β
section
variable {K : W.Frag} {F0 H0 F H B : Hp} {σ : St} {ρ : Ro} {β : Bx} {fp : List Addr}
theorem BxR.upd {p : Addr} {c : Cell} : ∀ {fp : List Addr} {β : Bx}, BxR K F B fp β -> fp.Nodup -> β.lookup p = some c -> ∃ fq, CellR K F B fq p c /\ fq.Nodup /\ (∀ a ∈ fq, a ∈ fp) /\
  ∀ (c' : Cell) (fq' : List Addr) (B' F' : Hp), Same F F' -> CellR K F' B' fq' p c' -> fq'.Nodup -> (∀ a ∈ fp, a ∉ fq -> B' a = B a) -> (∀ a ∈ fq', a ∈ fq \/ a ∉ fp) -> ∃ fp', BxR K F' B' fp' (updB p c' β) /\ fp'.Nodup /\ ∀ a ∈ fp', a ∈ fp \/ a ∈ fq'
 | _, _, .nil, _, e => by cases e
 | _, _, .cons (fp := f0) (fq := f1) (p := q) (c := c0) (β := β) h r, nd, e => by
  obtain ⟨n0, n1, n2⟩ := List.nodup_append.mp nd
  have dj : ∀ a, a ∈ f0 -> a ∈ f1 -> False := fun a h1 h2 => n2 a h1 a h2 rfl
  rw [lookup_cons] at e
  cases z : p == q with
  | true =>
   rw [z] at e
   have z := beq_iff_eq.mp z
   subst z
   cases e
   refine ⟨f0, h, n0, fun a ha => mem_append_left _ ha, fun c' fq' B' F' sf hc nq ag fr => ?_⟩
   unfold updB
   rw [if_pos rfl]
   refine ⟨fq' ++ f1, .cons hc (r.mono sf fun a ha => ag a (mem_append_right _ ha) fun z => dj a z ha), List.nodup_append.mpr ⟨nq, n1, fun a h1 b h2 hab => ?_⟩, fun a ha => ?_⟩
   ·subst hab
    rcases fr a h1 with z | z
    ·exact dj a z h2
    ·exact z (mem_append_right _ h2)
   ·rcases List.mem_append.mp ha with z | z
    ·exact .inr z
    ·exact .inl (mem_append_right _ z)
  | false =>
   rw [z] at e
   have hne : ¬ q = p := fun y => by rw [y, beq_self_eq_true] at z; cases z
   obtain ⟨fq, h1, nq0, hin, hup⟩ := r.upd n1 e
   refine ⟨fq, h1, nq0, fun a ha => mem_append_right _ (hin a ha), fun c' fq' B' F' sf hc nq ag fr => ?_⟩
   obtain ⟨fp', r', nd', hm⟩ := hup c' fq' B' F' sf hc nq (fun a ha hn => ag a (mem_append_right _ ha) hn) fun a ha => (fr a ha).imp id fun z y => z (mem_append_right _ y)
   unfold updB
   rw [if_neg hne]
   refine ⟨f0 ++ fp', .cons (h.mono sf fun a ha => ag a (mem_append_left _ ha) fun y => dj a ha (hin a y)) r', List.nodup_append.mpr ⟨n0, nd', fun a h1 b h2 hab => ?_⟩, fun a ha => ?_⟩
   ·subst hab
    rcases hm a h2 with z | z
    ·exact dj a h1 z
    ·rcases fr a z with y | y
     ·exact dj a h1 (hin a y)
     ·exact y (mem_append_left _ h1)
   ·rcases List.mem_append.mp ha with z | z
    ·exact .inl (mem_append_left _ z)
    ·exact (hm a z).imp (mem_append_right _) id
end
end
section
def putN (f : Str) (w : Fl) : List Str -> List Fl -> List Str × List Fl
 | n :: ns, g :: gs => if n = f then (n :: ns, w :: gs) else (n :: (putN f w ns gs).1, g :: (putN f w ns gs).2)
 | _, _ => ([f], [w])
section
variable {K : W.Frag} {F0 H0 F H B : Hp} {σ : St} {ρ : Ro} {β : Bx} {fp : List Addr}
theorem FlR.length {xs : List V} {fs : List Fl} (h : FlR K F B fp xs fs) : xs.length = fs.length := by
 induction h with
 | nil => rfl
 | v _ _ ih => simp [ih]
 | l _ _ _ ih => simp [ih]
theorem FlR.one_cons {fw : List Addr} {y : V} {w : Fl} (h : FlR K F B fw [y] [w]) {fq : List Addr} {xs : List V} {fs : List Fl} (r : FlR K F B fq xs fs) : FlR K F B (fw ++ fq) (y :: xs) (w :: fs) := by
 cases h with
 | v a b => cases b; exact .v a r
 | l a b c => cases c; exact .l a b r
theorem FlR.put {f : Str} {y : V} {w : Fl} {fw : List Addr} (hw : FlR K F B fw [y] [w]) (nw : fw.Nodup) : ∀ {fq : List Addr} {ns : List Str} {xs : List V} {fs : List Fl}, FlR K F B fq xs fs -> ns.length = xs.length -> fq.Nodup -> (∀ a ∈ fw, a ∉ fq) ->
  ∃ xs' fq', putF f y (ns.zip xs) = (putN f w ns fs).1.zip xs' /\ (putN f w ns fs).1.length = xs'.length /\ FlR K F B fq' xs' (putN f w ns fs).2 /\ fq'.Nodup /\ ∀ a ∈ fq', a ∈ fq \/ a ∈ fw
 | _, [], _, _, .nil, _, _, _ => ⟨[y], fw, rfl, rfl, hw, nw, fun a h => .inr h⟩
 | _, _ :: _, _, _, .nil, hl, _, _ => by cases hl
 | _, [], _, _, .v _ _, hl, _, _ => by cases hl
 | _, [], _, _, .l _ _ _, hl, _, _ => by cases hl
 | fq, n :: ns, x :: xs, _ :: fs, .v r rr, hl, nd, dj => by
  have l' : ns.length = xs.length := by simpa using hl
  by_cases hn : n = f
  ·refine ⟨y :: xs, fw ++ fq, ?_, ?_, ?_, ?_, ?_⟩
   ·rw [zip_cons_cons]; unfold putF putN; rw [if_pos hn, if_pos hn]; rfl
   ·unfold putN; rw [if_pos hn]; simpa using hl
   ·unfold putN; rw [if_pos hn]; exact hw.one_cons rr
   ·exact List.nodup_append.mpr ⟨nw, nd, fun a h1 b h2 e => by subst e; exact dj a h1 h2⟩
   ·intro a ha; exact (List.mem_append.mp ha).symm
  ·obtain ⟨xs', fq', e1, e2, e3, e4, e5⟩ := FlR.put (f := f) hw nw rr l' nd dj
   refine ⟨x :: xs', fq', ?_, ?_, ?_, e4, e5⟩
   ·rw [zip_cons_cons]; unfold putF putN; rw [if_neg hn, if_neg hn, e1]; rfl
   ·unfold putN; rw [if_neg hn]; simp [e2]
   ·unfold putN; rw [if_neg hn]; exact .v r e3
 | _, n :: ns, _ :: xs, _ :: fs, .l (fp := fq) (q := q) b r rr, hl, nd, dj => by
  have l' : ns.length = xs.length := by simpa using hl
  have nd' := List.nodup_cons.mp nd
  have dj' : ∀ a ∈ fw, a ∉ fq := fun a h1 h2 => dj a h1 (mem_cons_of_mem _ h2)
  by_cases hn : n = f
  ·refine ⟨y :: xs, fw ++ fq, ?_, ?_, ?_, ?_, ?_⟩
   ·rw [zip_cons_cons]; unfold putF putN; rw [if_pos hn, if_pos hn]; rfl
   ·unfold putN; rw [if_pos hn]; simpa using hl
   ·unfold putN; rw [if_pos hn]; exact hw.one_cons rr
   ·exact List.nodup_append.mpr ⟨nw, nd'.2, fun a h1 b h2 e => by subst e; exact dj' a h1 h2⟩
   ·intro a ha
    rcases List.mem_append.mp ha with z | z
    ·exact .inr z
    ·exact .inl (mem_cons_of_mem _ z)
  ·obtain ⟨xs', fq', e1, e2, e3, e4, e5⟩ := FlR.put (f := f) hw nw rr l' nd'.2 dj'
   refine ⟨.ref q :: xs', q :: fq', ?_, ?_, ?_, ?_, ?_⟩
   ·rw [zip_cons_cons]; unfold putF putN; rw [if_neg hn, if_neg hn, e1]; rfl
   ·unfold putN; rw [if_neg hn]; simp [e2]
   ·unfold putN; rw [if_neg hn]; exact .l b r e3
   ·refine List.nodup_cons.mpr ⟨fun h => ?_, e4⟩
    rcases e5 q h with z | z
    ·exact nd'.1 z
    ·exact dj q z (by simp)
   ·intro a ha
    rcases List.mem_cons.mp ha with rfl | z
    ·exact .inl (by simp)
    ·exact (e5 a z).imp (mem_cons_of_mem _) id
end
section
variable {X : Cx} {value o : Expr} {pos pos' : Pos} {f : Str}
end
end
section
section
variable {X : Cx} {value e o : Expr} {pos pos' apos cpos : Pos} {f : Str} {st : Stmt} {rest : List Stmt}
def getN (f : Str) : List Str -> List Fl -> Option Fl
 | n :: ns, g :: gs => if n = f then some g else getN f ns gs
 | _, _ => none
theorem FlR.get {K : W.Frag} {F B : Hp} {f : Str} {ds : List D} : ∀ {fq : List Addr} {ns : List Str} {xs : List V} {fs : List Fl}, FlR K F B fq xs fs -> ns.length = xs.length -> fq.Nodup -> getN f ns fs = some (.l ds) ->
  ∃ q ys, (ns.zip xs).lookup f = some (.ref q) /\ q ∈ fq /\ B q = some (.lst ys) /\ Reps K F ys ds /\ ∀ (B' F' : Hp) ys' ds', Same F F' -> B' q = some (.lst ys') -> Reps K F' ys' ds' -> (∀ a ∈ fq, a ≠ q -> B' a = B a) -> FlR K F' B' fq xs (putN f (.l ds') ns fs).2 /\ (putN f (.l ds') ns fs).1 = ns
 | _, [], _, _, .nil, _, _, e => by cases e
 | _, _ :: _, _, _, .nil, hl, _, _ => by cases hl
 | _, [], _, _, .v _ _, hl, _, _ => by cases hl
 | _, [], _, _, .l _ _ _, hl, _, _ => by cases hl
 | fq, n :: ns, x :: xs, _ :: fs, .v r rr, hl, nd, e => by
  have l' : ns.length = xs.length := by simpa using hl
  unfold getN at e
  by_cases hn : n = f
  ·rw [if_pos hn] at e; cases e
  ·rw [if_neg hn] at e
   obtain ⟨q, ys, a1, a2, a3, a4, a5⟩ := FlR.get rr l' nd e
   have hb : (f == n) = false := by
    cases z : f == n with
    | false => rfl
    | true => exact absurd (beq_iff_eq.mp z).symm hn
   refine ⟨q, ys, by rw [zip_cons_cons, lookup_cons, hb]; exact a1, a2, a3, a4, fun B' F' ys' ds' sf b1 b2 b3 => ?_⟩
   obtain ⟨c1, c2⟩ := a5 B' F' ys' ds' sf b1 b2 b3
   unfold putN
   rw [if_neg hn]
   exact ⟨.v (r.mono sf) c1, by simp [c2]⟩
 | _, n :: ns, _ :: xs, _ :: fs, .l (fp := fq) (q := q0) b r rr, hl, nd, e => by
  have l' : ns.length = xs.length := by simpa using hl
  have nd' := List.nodup_cons.mp nd
  unfold getN at e
  by_cases hn : n = f
  ·rw [if_pos hn] at e; cases e
   have hb : (f == n) = true := beq_iff_eq.mpr hn.symm
   refine ⟨q0, _, by rw [zip_cons_cons, lookup_cons, hb], by simp, b, r, fun B' F' ys' ds' sf b1 b2 b3 => ?_⟩
   unfold putN
   rw [if_pos hn]
   exact ⟨.l b1 b2 (rr.mono sf fun a ha => b3 a (by simp [ha]) fun z => nd'.1 (z ▸ ha)), rfl⟩
  ·rw [if_neg hn] at e
   obtain ⟨q, ys, a1, a2, a3, a4, a5⟩ := FlR.get rr l' nd'.2 e
   have hb : (f == n) = false := by
    cases z : f == n with
    | false => rfl
    | true => exact absurd (beq_iff_eq.mp z).symm hn
   refine ⟨q, ys, by rw [zip_cons_cons, lookup_cons, hb]; exact a1, by simp [a2], a3, a4, fun B' F' ys' ds' sf b1 b2 b3 => ?_⟩
   obtain ⟨c1, c2⟩ := a5 B' F' ys' ds' sf b1 b2 fun a ha hq => b3 a (by simp [ha]) hq
   unfold putN
   rw [if_neg hn]
   exact ⟨.l (by rw [b3 q0 (by simp) fun z => nd'.1 (z ▸ a2)]; exact b) (r.mono sf) c1, by simp [c2]⟩
end
end
section
theorem Rl.forget {K : W.Frag} {F0 H0 F H : Hp} {σ : St} {ρ : Ro} (r : Rl K F0 H0 F H σ ρ) (i : Nat) : Rl K F0 H0 F H σ (ρ.set i none) := by
 have back : ∀ (j : Nat) x, (ρ.set i none)[j]? = some (some x) -> ρ[j]? = some (some x) := fun j x e => by
  by_cases hj : i = j
  ·subst hj
   rcases Nat.lt_or_ge i ρ.length with z | z
   ·rw [getElem?_set_self z] at e; cases e
   ·rw [getElem?_eq_none (by simpa using z)] at e; cases e
  ·rw [getElem?_set_ne hj] at e; exact e
 exact ⟨r.ext, by simp [r.len], fun j d e => r.sh j d (back j _ e), fun j ds e => r.own j ds (back j _ e), fun j k p ds es hjk e1 e2 => r.inj j k p ds es hjk (back j _ e1) (back k _ e2), fun j p ds e => r.ob j p ds (back j _ e), fun j k p ds es e1 e2 => r.obn j k p ds es (back j _ e1) (back k _ e2), fun j k p q ds es e1 e2 => r.ob1 j k p q ds es (back j _ e1) (back k _ e2)⟩
open Classical in
def letGo (i : Nat) (k : Nat) : Out × Bx -> Out × Bx
 | (.nx ρ, β) => (.nx (ρ.set i none), β.drop (β.length - k))
 | (.bk ρ, β) => (.bk (ρ.set i none), β.drop (β.length - k))
 | (.ct ρ, β) => (.ct (ρ.set i none), β.drop (β.length - k))
 | (o, β) => (o, β.drop (β.length - k))
theorem okW.letGo {K : W.Frag} {F0 H0 Fb : Hp} {Dn : Ends} {i k : Nat} : ∀ {o : Out} {β : Bx}, okW K F0 H0 Fb Dn (letGo i k (o, β)).1 (letGo i k (o, β)).2 -> okW K F0 H0 Fb Dn o β
 | .nx ρ, β, h => fun F H σ ⟨B, fp, rl, ok⟩ s => let ⟨fq, ok'⟩ := ok.drop (β.length - k); h F H σ ⟨B, fq, rl.forget i, ok'⟩ s
 | .bk ρ, β, h => fun F H σ ⟨B, fp, rl, ok⟩ s => let ⟨fq, ok'⟩ := ok.drop (β.length - k); h F H σ ⟨B, fq, rl.forget i, ok'⟩ s
 | .ct ρ, β, h => fun F H σ ⟨B, fp, rl, ok⟩ s => let ⟨fq, ok'⟩ := ok.drop (β.length - k); h F H σ ⟨B, fq, rl.forget i, ok'⟩ s
 | .rt d, β, h => fun v F H B fp x ok r => let ⟨fq, ok'⟩ := ok.drop (β.length - k); h v F H B fq x ok' r
 | .rf ds, β, h => fun p xs F H B fp x ok a b c r => let ⟨fq, ok'⟩ := ok.drop (β.length - k); h p xs F H B fq x ok' a b c r
 | .rg d p r, β, h => fun v F H xs B fp x ok a j b c e => let ⟨fq, ok'⟩ := ok.drop (β.length - k); h v F H xs B fq x ok' a j b c e
 | .rp _ _, _, h => h
 | .rgf _ _ _, _, h => h
section
variable {X : Cx} {e : Expr} {es : List Expr} {st : Stmt} {rest : List Stmt} {E : XK} {mf : MFW} {m : ML}
end
end
section
section
variable {X : Cx} {a b c e o : Expr} {pos : Pos} {st : Stmt} {rest : List Stmt} {E : XK} {es : List Expr} {mf : MFW}
end
end
section
theorem TD.mono {K : W.Frag} {m : ME} {σ : St} {H : Hp} {Q Q' : VK} (h : TD K m σ H Q) (i : ∀ v H', Q v H' -> Q' v H') : TD K m σ H Q' := let ⟨F0, H0, F, ρ, d, rl, e, q⟩ := h; ⟨F0, H0, F, ρ, d, rl, e, fun v F' H' x r => i _ _ (q v F' H' x r)⟩
section
variable {X : Cx} {e o : Expr} {E : XK}
end
end
section
section
variable {X : Cx} {e : Expr} {pos : Pos}
end
end
section
section
variable {K : W.Frag} {F0 H0 F H B : Hp} {σ : St} {ρ : Ro} {β : Bx} {fp : List Addr}
end
abbrev MGW := Addr -> List D -> List D -> Bx -> Option (D × List D × Bx)
section
variable {X : Cx} {e : Expr} {pos : Pos} {st : Stmt} {es : List Expr} {E : XK} {mf : MGW} {m : ML}
end
end
section
end
section
def qfnD (K : W.Frag) (nm ql : Str) (st : Stmt) (x : Addr) : Prop := ∃ (oc : Value) (o1 : Option Addr) (kV dc pm : Value) (o2 : Option Addr) (cd ct : Value) (sl : Array (Option Value)), K.lookup x = some ⟨oc, o1, .func (W.fnOf nm ql (defArgs st) (defBody st) (defScope st) .none kV dc pm o2 cd ct), sl⟩ /\ W.codeIn K cd ql = true /\ W.keepIn K (.ref x) = true
def QDn (K : W.Frag) (nm : Str) (st : Stmt) : Prop := ∃ x : Addr, W.nsIn K mainGlobals nm = some (some (.ref x)) /\ qfnD K nm nm st x
def QMn (K : W.Frag) (C : Addr) (nm ql : Str) (st : Stmt) : Prop := ∃ x : Addr, W.findIn K (.ref C) nm = some (some (.ref x)) /\ W.isFn K (.ref x) = true /\ qfnD K nm ql st x
theorem QDn.of {K : W.Frag} {nm : Str} {st : Stmt} {x : Addr} {oc : Value} {o1 : Option Addr} {kV dc pm : Value} {o2 : Option Addr} {cd ct : Value} {sl : Array (Option Value)} (e : W.nsIn K mainGlobals nm = some (some (.ref x))) (l : K.lookup x = some ⟨oc, o1, .func (W.fnOf nm nm (defArgs st) (defBody st) (defScope st) .none kV dc pm o2 cd ct), sl⟩) (c : W.codeIn K cd nm = true) (k : W.keepIn K (.ref x) = true) : QDn K nm st := ⟨x, e, oc, o1, kV, dc, pm, o2, cd, ct, sl, l, c, k⟩
theorem QMn.of {K : W.Frag} {C : Addr} {nm ql : Str} {st : Stmt} {x : Addr} {oc : Value} {o1 : Option Addr} {kV dc pm : Value} {o2 : Option Addr} {cd ct : Value} {sl : Array (Option Value)} (e : W.findIn K (.ref C) nm = some (some (.ref x))) (i : W.isFn K (.ref x) = true) (l : K.lookup x = some ⟨oc, o1, .func (W.fnOf nm ql (defArgs st) (defBody st) (defScope st) .none kV dc pm o2 cd ct), sl⟩) (c : W.codeIn K cd ql = true) (k : W.keepIn K (.ref x) = true) : QMn K C nm ql st := ⟨x, e, i, oc, o1, kV, dc, pm, o2, cd, ct, sl, l, c, k⟩
abbrev QBdD (nm ql : Str) (st : Stmt) (ps : List Str) (us : List Value) : Prop := ∀ (kV doc pm : Value) (an : Option Addr) (cdv ct : Value), bindArgs (W.fnOf nm ql (defArgs st) (defBody st) (defScope st) .none kV doc pm an cdv ct) ⟨us, []⟩ = pure (ps.zip us)
section
variable {P : Program} {w : World} {K : W.Frag} {mg : Str -> Option Value} {base h : Heap} {nm ql cn : Str} {st : Stmt} {ps : List Str} {sp : Sp} {n : Nat} {C : Addr}
def QDf (K : W.Frag) (mg : Str -> Option Value) (nm : Str) (st : Stmt) (ps : List Str) : Prop := ∃ f fd, Fun K nm nm st f fd /\ Binds K fd ps [] /\ mg nm = some (.ref f)
def QHd (P : Program) (w : World) (K : W.Frag) (mg : Str -> Option Value) (base : Heap) (n : Nat) (nm : Str) (ps : List Str) (sp : Sp) : Prop := ∃ f fd, FnOk P w K mg base CX0 n f fd ps sp /\ Binds K fd ps [] /\ W.keepIn K (.ref f) = true /\ mg nm = some (.ref f)
def QMf (K : W.Frag) (C : Addr) (nm ql : Str) (st : Stmt) (ps : List Str) : Prop := ∃ f fd, Fun K nm ql st f fd /\ Binds K fd ps [] /\ Meth K C nm f
def QHm (P : Program) (w : World) (K : W.Frag) (mg : Str -> Option Value) (base : Heap) (n : Nat) (C : Addr) (nm : Str) (ps : List Str) (sp : Sp) : Prop := ∃ f fd, FnOk P w K mg base CX0 n f fd ps sp /\ Binds K fd ps [] /\ Meth K C nm f
def QHi (P : Program) (w : World) (K : W.Frag) (mg : Str -> Option Value) (base : Heap) (n : Nat) (C : Addr) (cn : Str) (ps : List Str) (sp : Sp) : Prop := ∃ f fd, FnOk P w K mg base CX0 n f fd ps sp /\ Binds K fd ps [] /\ Mk K C f /\ mg cn = some (.ref C)
theorem qfnD.mk {x : Addr} (D : qfnD K nm ql st x) (hb : ∀ us : List Value, us.length = ps.length -> QBdD nm ql st ps us) : ∃ fd, Fun K nm ql st x fd /\ Binds K fd ps [] := by
 obtain ⟨oc, o1, kV, dc, pm, o2, cd, ct, sl, l, c, k⟩ := D
 exact ⟨_, fun_mk l c k, (fun_mk l c k).binds fun _ _ _ _ _ _ us hl => hb us hl _ _ _ _ _ _⟩
theorem QMn.mf (D : QMn K C nm ql st) (hb : ∀ us : List Value, us.length = ps.length -> QBdD nm ql st ps us) : QMf K C nm ql st ps := by
 obtain ⟨x, e, i, D⟩ := D
 obtain ⟨fd, F, b⟩ := D.mk hb
 exact ⟨x, fd, F, b, e, i, F.kp⟩
theorem QDf.mk (D : QDf K mg nm st ps) (h : ∀ f fd, Fun K nm nm st f fd -> FnOk P w K mg base CX0 n f fd ps sp) : QHd P w K mg base n nm ps sp := by
 obtain ⟨f, fd, F, b, a⟩ := D
 exact ⟨f, fd, h f fd F, b, F.kp, a⟩
theorem QMf.mk (D : QMf K C nm ql st ps) (h : ∀ f fd, Fun K nm ql st f fd -> FnOk P w K mg base CX0 n f fd ps sp) : QHm P w K mg base n C nm ps sp := by
 obtain ⟨f, fd, F, b, m⟩ := D
 exact ⟨f, fd, h f fd F, b, m⟩
theorem QHm.hi (H : QHm P w K mg base n C "__init__" ps sp) (m1 : W.makesIn K C = true) (m2 : W.keepIn K (.ref C) = true) (a : mg cn = some (.ref C)) : QHi P w K mg base n C cn ps sp := by
 obtain ⟨f, fd, F, b, m⟩ := H
 exact ⟨f, fd, F, b, ⟨m1, m.at_, m.fn, m2⟩, a⟩
end
section
variable {X : Cx} {n k : Nat} {nm cn : Str} {ps : List Str} {sp : Sp} {e o : Expr} {es : List Expr} {ta : TE} {t : TA} {p pos apos : Pos} {C : Addr} {pl : Sem Bool}
end
section
variable {a b c d e f : ME} (ρ : Ro) (ds : List D)
end
end
section
section
variable {X : Cx} {a b c e : Expr} {pos : Pos} {st : Stmt}
end
end
section
section
variable {X : Cx} {st : Stmt} {sts : List Stmt}
end
end
section
section
variable {X : Cx} {a b c e k : Expr} {te : TE} {ma mb : ME} {la lb : ML} {pos p2 : Pos} {st : Stmt}
def pickJ {α : Type} (xs : List α) (js : List Nat) : List α := js.filterMap (xs[·]?)
theorem Reps.pick {K : W.Frag} {F : Hp} {vs : List V} {ds : List D} (r : Reps K F vs ds) : ∀ js : List Nat, Reps K F (pickJ vs js) (pickJ ds js)
 | [] => .nil
 | j :: js => by
  unfold pickJ
  rw [filterMap_cons, filterMap_cons]
  cases h : ds[j]? with
  | none =>
   have : vs[j]? = none := by rw [getElem?_eq_none_iff] at h ⊢; rw [r.length]; exact h
   rw [this]; exact Reps.pick r js
  | some d =>
   obtain ⟨v, h1, h2⟩ := r.get h
   rw [h1]; exact .cons h2 (Reps.pick r js)
theorem Vals.pick {vs : List V} {us : List Value} (r : Vals vs us) : ∀ js : List Nat, Vals (pickJ vs js) (pickJ us js)
 | [] => .nil
 | j :: js => by
  unfold pickJ
  rw [filterMap_cons, filterMap_cons]
  cases h : vs[j]? with
  | none =>
   have : us[j]? = none := by rw [getElem?_eq_none_iff] at h ⊢; rw [<- r.length]; exact h
   rw [this]; exact Vals.pick r js
  | some d =>
   obtain ⟨v, h1, h2⟩ := r.get h
   rw [h1]; exact .cons h2 (Vals.pick r js)
def KTup (K : W.Frag) (a : Addr) (xs : List Str) : Prop := ∃ (o : Obj) (its : Array Value) (n : Nat), K.lookup a = some o /\ o.cls = .type "tuple" /\ o.data = .seq its n /\ its.size <= sizeLine /\ Vals (xs.map V.str) its.toList /\ o.dict = none
theorem KTup.rep {K : W.Frag} {F : Hp} {a : Addr} {xs : List Str} (h : KTup K a xs) : Rep K F (.ref a) (.tup (xs.map .str)) := let ⟨o, its, n, h1, h2, h3, h4, h5, _⟩ := h; .tup (.inr ⟨o, its, n, h1, h2, h3, h4, h5⟩) (reps_strs xs)
end
end
section
def ObjAt (a : Addr) (o : Obj) : Heap -> Prop := fun h => h.get? a = some o
section
variable {X : Cx} {P : Addr} {pos : Pos} {q : Str} {params : Arguments} {body : Expr} {sc : Scope}
end
end
section
section
variable {X : Cx} {pins : List (Addr × Obj)} {σ : St} {H : Hp} {s : Shared}
def LamP (X : Cx) (σ : St) (ρ : Ro) (q : Str) (c f : Addr) (o : Obj) (F H : Hp) : Prop := (∃ F0 H0, Rl X.K F0 H0 F H σ ρ) /\ F c = some (.ext (CodeAt c q)) /\ F f = some (.ext (ObjAt f o))
theorem LamP.go {ρ : Ro} {q : Str} {c f : Addr} {o : Obj} {F H F' H' : Hp} (h : LamP X σ ρ q c f o F H) (x : Ext F H F' H') : LamP X σ ρ q c f o F' H' :=
 let ⟨⟨F0, H0, rl⟩, h1, h2⟩ := h; ⟨⟨F0, H0, rl.go x⟩, x.ff _ _ h1, x.ff _ _ h2⟩
end
end
section
section
variable {X : Cx} {pins : List (Addr × Obj)} {σ : St}
end
end
section
open Classical in
section
variable {X : Cx}
end
section
variable {P : Program} {w : World} {K : W.Frag} {mg : Str -> Option Value} {base : Heap} {nm : Str} {st : Stmt} {ps : List Str} {sp : Sp} {n : Nat}
end
end
section
theorem TabF.of {K : W.Frag} {mw : Str} {P f c : Addr} {oc : Value} {od o1 : Option Addr} {fd : FuncData} {sl sl1 : Array (Option Value)} {vs : Array Value} (e : W.nsIn K mainGlobals mw = some (some (.ref f))) (l : K.lookup f = some ⟨oc, od, .func fd, sl⟩) (hc : fd.code = .ref c) (lc : K.lookup c = some ⟨.type "code", o1, .fields vs, sl1⟩)
  (hv : ∃ file tf flags tg inF text tt, vs[11]? = some (.ref P) /\ vs.getD 11 .none = .ref P /\ vs.getD 18 .none = .str file tf /\ vs.getD 7 .none = .int flags tg /\ vs.getD 9 .none = .bool inF /\ vs.getD 10 .none = .int text tt) (hcP : c ≠ P)
  (n4 : mainGlobals ≠ P) : TabF K mw P := by
 obtain ⟨file, tf, flags, tg, inF, text, tt, v1, v2, v3, v4, v5, v6⟩ := hv
 exact ⟨f, oc, od, fd, sl, e, l, ⟨c, hc, fun h X => ⟨_, vs, file, tf, flags, tg, inF, text, tt, X _ _ lc, rfl, rfl, v1, v2, v3, v4, v5, v6, hcP⟩⟩, n4⟩
end
section
section
variable {K : W.Frag} {F0 H0 F H B : Hp} {σ : St} {ρ : Ro} {β : Bx} {fp : List Addr}
theorem FlR.at' {n : Nat} {ds : List D} : ∀ {n : Nat} {fp : List Addr} {xs : List V} {fs : List Fl}, FlR K F B fp xs fs -> fp.Nodup -> fs[n]? = some (.l ds) -> ∃ q ys, xs[n]? = some (.ref q) /\ q ∈ fp /\ B q = some (.lst ys) /\ Reps K F ys ds /\
  ∀ (B' F' : Hp) ys' ds', Same F F' -> B' q = some (.lst ys') -> Reps K F' ys' ds' -> (∀ a ∈ fp, a ≠ q -> B' a = B a) -> FlR K F' B' fp xs (fs.set n (.l ds'))
 | _, _, _, _, .nil, _, e => by simp at e
 | 0, _, _, _, .v _ _, _, e => by simp at e
 | n + 1, _, _, _, .v r t, nd, e => by
  obtain ⟨q, ys, a1, a2, a3, a4, a5⟩ := FlR.at' (n := n) t nd (by simpa using e)
  exact ⟨q, ys, by simpa using a1, a2, a3, a4, fun B' F' ys' ds' sf b1 b2 b3 => .v (r.mono sf) (a5 B' F' ys' ds' sf b1 b2 b3)⟩
 | 0, _, _, _, .l (fp := fp) (q := q) b r t, nd, e => by
  simp at e
  subst e
  have hn := List.nodup_cons.mp nd
  exact ⟨q, _, rfl, by simp, b, r, fun B' F' ys' ds' sf b1 b2 b3 => .l b1 b2 (t.mono sf fun a ha => b3 a (by simp [ha]) fun z => hn.1 (z ▸ ha))⟩
 | n + 1, _, _, _, .l (fp := fp) (q := q0) b r t, nd, e => by
  have hn := List.nodup_cons.mp nd
  obtain ⟨q, ys, a1, a2, a3, a4, a5⟩ := FlR.at' (n := n) t hn.2 (by simpa using e)
  exact ⟨q, ys, by simpa using a1, by simp [a2], a3, a4, fun B' F' ys' ds' sf b1 b2 b3 => .l (by rw [b3 q0 (by simp) fun z => hn.1 (z ▸ a2)]; exact b) (r.mono sf) (a5 B' F' ys' ds' sf b1 b2 fun a ha hq => b3 a (by simp [ha]) hq)⟩
end
section
variable {X : Cx} {a b c e : Expr} {pos : Pos} {st : Stmt} {rest : List Stmt} {E : XK} {es : List Expr} {mf : MFW} {m : ML}
end
end
section
section
variable {X : Cx} {pins : List (Addr × Obj)} {σ : St}
end
section
variable {X : Cx}
end
end
section
section
variable {X : Cx} {pins : List (Addr × Obj)} {σ : St}
end
section
variable {X : Cx} {pos : Pos}
end
end
section
section
variable {X : Cx} {e : Expr} {pos : Pos} {es : List Expr} {m : ML} {mf : MF} {E : XK}
end
def NewPs (K : W.Frag) (H F' : Hp) (xs : List V) (out : List D) : Prop := ∀ (i : Nat) x g, xs[i]? = some x -> out[i]? = some g -> ∃ t v q zs d es, x = .ref t /\ g = .tup [d, .lst es] /\ H t = none /\ H q = none /\ t ≠ q /\ F' t = some (.tup [v, .ref q]) /\ F' q = some (.lst zs) /\ Rep K F' v d /\ Reps K F' zs es
theorem NewPs.mono {K : W.Frag} {H F' F'' : Hp} {xs : List V} {out : List D} (n : NewPs K H F' xs out) (s : Same F' F'') : NewPs K H F'' xs out := fun i x g a b => by
 obtain ⟨t, v, q, zs, d, es, h1, h2, h3, h4, h5, h6, h7, h8, h9⟩ := n i x g a b
 exact ⟨t, v, q, zs, d, es, h1, h2, h3, h4, h5, s _ _ h6, s _ _ h7, h8.mono s, h9.mono s⟩
section
variable {X : Cx} {pos : Pos}
end
end
section
abbrev Up (xs : Array Nat) : Prop := xs.toList.Pairwise (· < ·)
theorem Up.lt {xs : Array Nat} (h : Up xs) {i j : Nat} (hij : i < j) (hj : j < xs.size) : xs[i]'(by omega) < xs[j] := by
 have := List.pairwise_iff_getElem.mp h i j (by simpa using (by omega : i < xs.size)) (by simpa using hj) hij
 simpa using this
def IsBelow (xs : Array Nat) (j b : Nat) : Prop := b <= xs.size /\ (∀ i (h : i < xs.size), i < b -> xs[i] < j) /\ ∀ i (h : i < xs.size), b <= i -> j <= xs[i]
theorem below_go {xs : Array Nat} (hu : Up xs) (j : Nat) : ∀ (fuel lo hi : Nat), lo <= hi -> hi <= xs.size -> hi - lo <= fuel -> (∀ i (h : i < xs.size), i < lo -> xs[i] < j) -> (∀ i (h : i < xs.size), hi <= i -> j <= xs[i]) -> IsBelow xs j (SetTable.below.go xs j fuel lo hi)
 | 0, lo, hi, h1, h2, h3, ha, hb => by
  have : lo = hi := by omega
  subst this
  exact ⟨h2, ha, hb⟩
 | fuel + 1, lo, hi, h1, h2, h3, ha, hb => by
  unfold SetTable.below.go
  by_cases q : lo < hi
  ·rw [if_pos q]
   dsimp only
   have hm : (lo + hi) / 2 < xs.size := by omega
   have e : xs.getD ((lo + hi) / 2) j = xs[(lo + hi) / 2] := by simp [Array.getD, hm]
   rw [e]
   by_cases z : xs[(lo + hi) / 2] < j
   ·rw [if_pos z]
    refine below_go hu j fuel _ hi (by omega) h2 (by omega) (fun i h hi' => ?_) hb
    rcases Nat.lt_or_ge i ((lo + hi) / 2) with y | y
    ·exact Nat.lt_trans (hu.lt y hm) z
    ·have : i = (lo + hi) / 2 := by omega
     subst this; exact z
   ·rw [if_neg z]
    refine below_go hu j fuel lo _ (by omega) (by omega) (by omega) ha fun i h hi' => ?_
    rcases Nat.lt_or_ge ((lo + hi) / 2) i with y | y
    ·exact Nat.le_trans (by omega) (Nat.le_of_lt (hu.lt y h))
    ·have : i = (lo + hi) / 2 := by omega
     subst this; omega
  ·rw [if_neg q]
   have : lo = hi := by omega
   subst this
   exact ⟨h2, ha, hb⟩
theorem below_is {xs : Array Nat} (hu : Up xs) (j : Nat) : IsBelow xs j (SetTable.below xs j) := below_go hu j xs.size 0 xs.size (Nat.zero_le _) (Nat.le_refl _) (by omega) (fun i h z => by omega) fun i h z => by omega
theorem IsBelow.uniq {xs : Array Nat} {j b c : Nat} (h : IsBelow xs j b) (k : IsBelow xs j c) : b = c := by
 rcases Nat.lt_trichotomy b c with z | z | z
 ·have h1 := h.2.2 b (by have := k.1; omega) (Nat.le_refl _)
  have h2 := k.2.1 b (by have := k.1; omega) z
  omega
 ·exact z
 ·have h1 := k.2.2 c (by have := h.1; omega) (Nat.le_refl _)
  have h2 := h.2.1 c (by have := h.1; omega) z
  omega
theorem below_zero {xs : Array Nat} (hu : Up xs) : SetTable.below xs 0 = 0 := (below_is hu 0).uniq ⟨Nat.zero_le _, fun i h z => by omega, fun i h z => Nat.zero_le _⟩
theorem below_next {xs : Array Nat} (hu : Up xs) {i : Nat} (hi : i < xs.size) : SetTable.below xs (xs[i] + 1) = i + 1 := (below_is hu _).uniq ⟨by omega, fun k h z => by
 rcases Nat.lt_or_ge k i with y | y
 ·have := hu.lt y hi; omega
 ·have : k = i := by omega
  subst this; omega, fun k h z => by
 have := hu.lt (show i < k by omega) h
 omega⟩
theorem insert_up {xs : Array Nat} (hu : Up xs) {j : Nat} (hn : xs[SetTable.below xs j]? ≠ some j) : Up (SetTable.insertAt xs (SetTable.below xs j) j) := by
 have hb := below_is hu j
 generalize SetTable.below xs j = b at *
 unfold Up
 rw [SetTable.toList_insertAt, pairwise_append]
 obtain ⟨h1, h2, h3⟩ := hb
 refine ⟨List.Pairwise.sublist (take_sublist _ _) hu, List.pairwise_cons.mpr ⟨fun x hx => ?_, List.Pairwise.sublist (drop_sublist _ _) hu⟩, fun x hx y hy => ?_⟩
 ·obtain ⟨i, hi, rfl⟩ := getElem_of_mem hx
  rw [length_drop, Array.length_toList] at hi
  rw [getElem_drop, Array.getElem_toList]
  have := h3 (b + i) (by omega) (by omega)
  rcases Nat.lt_or_ge j (xs[b + i]'(by omega)) with z | z
  ·exact z
  ·exfalso
   have e : xs[b + i]'(by omega) = j := by omega
   have hb0 : b < xs.size := by omega
   rcases Nat.eq_zero_or_pos i with rfl | hi0
   ·exact hn (by rw [Array.getElem?_eq_getElem hb0]; exact congrArg some e)
   ·have h4 := h3 b hb0 (Nat.le_refl _)
    have h5 := hu.lt (show b < b + i by omega) (by omega)
    omega
 ·obtain ⟨i, hi, rfl⟩ := getElem_of_mem hx
  rw [length_take, Array.length_toList] at hi
  rw [getElem_take, Array.getElem_toList]
  have hx2 := h2 i (by omega) (by omega)
  rcases List.mem_cons.mp hy with rfl | hy
  ·exact hx2
  ·obtain ⟨k, hk, rfl⟩ := getElem_of_mem hy
   rw [length_drop, Array.length_toList] at hk
   rw [getElem_drop, Array.getElem_toList]
   exact hu.lt (by omega) (by omega)
def GT (led : Bool) (t : SetTable) : Prop := t.led = led /\ (t.plain = true -> Up t.place)
theorem slot_free {t : SetTable} {j : Nat} (h : t.slot j = .empty \/ t.slot j = .dummy) : t.place[SetTable.below t.place j]? ≠ some j := by
 unfold SetTable.slot at h
 dsimp only at h
 intro z
 rw [z] at h
 simp at h
theorem probe_free {t : SetTable} {f : Nat -> Int} {h : Int} : ∀ (fuel : Nat) (p : SetTable.Probe), (∀ d, p.dummy = some d -> t.place[SetTable.below t.place d]? ≠ some d) -> ∀ j d, SetTable.probe.go t f h fuel p = some (.empty j d) -> t.place[SetTable.below t.place (d.getD j)]? ≠ some (d.getD j)
 | 0, p, _, j, d, e => by cases e
 | fuel + 1, p, hd, j, d, e => by
  unfold SetTable.probe.go at e
  have adv : ∀ q : SetTable.Probe, (t.advance q).dummy = q.dummy := fun q => by
   unfold SetTable.advance
   split <;> rfl
  split at e
  ·rename_i hs
   cases e
   cases hq : p.dummy with
   | none => exact slot_free (.inl hs)
   | some d => exact hd d hq
  ·rename_i hs
   refine probe_free fuel _ (fun d' hd' => ?_) j d e
   rw [adv] at hd'
   cases hd'
   exact slot_free (.inr hs)
  ·split at e
   ·cases e
   ·exact probe_free fuel _ (fun d' hd' => hd d' (by rw [adv] at hd'; exact hd')) j d e
theorem layNew_good {led : Bool} {t : SetTable} (g : GT led t) (es : Array (Int × Value)) (h : Int) (x : Value) : GT led (layNew t es h x).2.1 := by
 have st : ∀ (t : SetTable) n, t.led = led -> GT led (t.standIn n) := fun t n hl => ⟨hl, fun z => by cases z⟩
 unfold layNew
 split
 ·rename_i slot wd hf
  dsimp only
  unfold SetTable.orStandIn
  have hl : (t.put slot).1.led = led := g.1
  split
  ·refine ⟨hl, fun hp => ?_⟩
   have hu : Up t.place := g.2 hp
   refine insert_up hu ?_
   unfold SetTable.freeSlot at hf
   split at hf
   ·rename_i j d hpr
    cases hf
    exact probe_free _ _ (fun d' hd' => by unfold SetTable.probeStart at hd'; cases hd') j d hpr
   ·cases hf
  ·exact st _ _ hl
 ·exact st _ _ g.1
theorem relayAll_good {led : Bool} {t : SetTable} (g : GT led t) (es : Array (Int × Value)) (wanted : Nat) : GT led (relayAll t es wanted).2.1 := by
 have st : ∀ n, GT led (t.standIn n) := fun n => ⟨g.1, fun z => by cases z⟩
 unfold relayAll
 split
 ·rename_i t' order hr
  dsimp only
  split
  ·unfold SetTable.relaid SetTable.laid at hr
   cases hc : SetTable.layClean (SetTable.sizeAbove wanted - 1) (es.map (·.1)) with
   | none => rw [hc] at hr; cases hr
   | some owner =>
    rw [hc] at hr
    cases hr
    refine ⟨g.1, fun _ => ?_⟩
    unfold Up
    dsimp only
    have key : ∀ (n : Nat) (f : Nat -> Option Nat), (((List.range n).filterMap fun j => (f j).map (j, ·)).map (·.1)).Pairwise (· < ·) := fun n f => by
     rw [map_filterMap]
     refine List.Pairwise.filterMap (R := (· < ·)) _ (fun a b hab x hx y hy => ?_) pairwise_lt_range
     cases hfa : f a with
     | none => rw [hfa] at hx; cases hx
     | some u =>
      cases hfb : f b with
      | none => rw [hfb] at hy; cases hy
      | some v =>
       rw [hfa] at hx; rw [hfb] at hy
       cases hx; cases hy
       exact hab
    exact key _ _
  ·exact st _
 ·exact st _
theorem erase_perm {α : Type} (l : List α) (i : Nat) (h : i < l.length) : (l[i] :: l.eraseIdx i).Perm l := by
 rw [eraseIdx_eq_take_drop_succ]
 have e : l = l.take i ++ l[i] :: l.drop (i + 1) := by rw [getElem_cons_drop, take_append_drop]
 exact (List.perm_middle.symm).trans (by rw [<- e])
theorem pick_go {α : Type} (next : Nat -> Nat) : ∀ (fuel k : Nat) (left : List α) (out : Array α), left.length = fuel -> (pickOrder.go next fuel k left out).toList.Perm (out.toList ++ left)
 | 0, k, left, out, h => by
  rw [List.length_eq_zero_iff.mp h, append_nil]; exact .refl _
 | fuel + 1, k, left, out, h => by
  unfold pickOrder.go
  have hl : next k % left.length < left.length := Nat.mod_lt _ (by omega)
  rw [getElem?_eq_getElem hl]
  dsimp only
  refine (pick_go next fuel (k + 1) _ _ (by rw [length_eraseIdx_of_lt hl]; omega)).trans ?_
  rw [Array.toList_push, append_assoc]
  exact List.Perm.append_left _ (erase_perm left _ hl)
theorem pick_perm {α : Type} (next : Nat -> Nat) (xs : Array α) : (pickOrder next xs).toList.Perm xs.toList := by
 unfold pickOrder
 exact (pick_go next xs.size 0 xs.toList #[] (by simp)).trans (by simp)
end
section
section
variable {prog : Program} {w : World} {A : Around} {E : Value -> Shared -> Prop} {s : Shared}
abbrev KI (prog : Program) (w : World) := intKind prog w
structure SG (prog : Program) (w : World) (h : Heap) (a : Addr) (S : Int -> Bool) (n : Nat) (led : Bool) (o : Obj) (fs : Array (Int × Value)) (ep : Nat) (u : SetTable) : Prop where
 at_ : h.get? a = some o
 ex : o.ExactSet
 dat : o.data = .set fs ep u
 el : ElemsOf (KI prog w) fs.toList
 mem : ∀ k, S k = true ↔ ∃ e ∈ fs.toList, (KI prog w).is k e.2 = true
 small : fs.size < scanBound
 fit : u.fits fs.size = true
 many : fs.size = n
 good : GT led u
def SetG (prog : Program) (w : World) (h : Heap) (a : Addr) (S : Int -> Bool) (n : Nat) (led : Bool) : Prop := ∃ o fs ep u, SG prog w h a S n led o fs ep u
theorem SetG.congr {h : Heap} {a : Addr} {S S' : Int -> Bool} {n n' : Nat} {led : Bool} (g : SetG prog w h a S n led) (e : ∀ k, S k = S' k) (en : n = n') : SetG prog w h a S' n' led := by
 have : S = S' := funext e
 subst this; subst en; exact g
theorem SetG.stay {h h' : Heap} {a : Addr} {S : Int -> Bool} {n : Nat} {led : Bool} (g : SetG prog w h a S n led) (k : ∀ o, h.get? a = some o -> h'.get? a = some o) : SetG prog w h' a S n led := by
 obtain ⟨o, fs, ep, u, g⟩ := g
 exact ⟨o, fs, ep, u, k o g.at_, g.ex, g.dat, g.el, g.mem, g.small, g.fit, g.many, g.good⟩
theorem sg_put {h : Heap} {a : Addr} {o : Obj} {fs gs : Array (Int × Value)} {ep : Nat} {u v : SetTable} {S' : Int -> Bool} {led : Bool} (ho : h.get? a = some o) (hex : o.ExactSet) (hd : o.data = .set fs ep u) (el : ElemsOf (KI prog w) gs.toList) (mem : ∀ k, S' k = true ↔ ∃ e ∈ gs.toList, (KI prog w).is k e.2 = true) (small : gs.size < scanBound) (fit : v.fits gs.size = true) (gt : GT led v) :
  SG prog w (h.update a (Obj.putSet gs v)) a S' gs.size led { o with data := .set gs (ep + 1) v } gs (ep + 1) v :=
 ⟨(SetOf_store (knd := KI prog w) ho hex hd el mem small fit).1, hex, rfl, el, mem, small, fit, rfl, gt⟩
theorem tailG {g : Bool -> Sem Unit} (pass : ∀ (b : Bool) (s1 : Shared) (R : Unit -> Shared -> Prop), R () s1 -> wpAny (model prog w) A (g b) R E s1)
  {a : Addr} {o : Obj} {fs gs : Array (Int × Value)} {ep : Nat} {u v : SetTable} {S' : Int -> Bool} {led : Bool} (ho : s.heap.get? a = some o) (hex : o.ExactSet) (hd : o.data = .set fs ep u) (el : ElemsOf (KI prog w) gs.toList) (mem : ∀ k, S' k = true ↔ ∃ e ∈ gs.toList, (KI prog w).is k e.2 = true) (small : gs.size < scanBound) (fit : v.fits gs.size = true) (gt : GT led v)
  {wd : Bool} {R : Option Bool -> Shared -> Prop} (fin : ∀ h', Heap.SameBut a s.heap h' -> SetG prog w h' a S' gs.size led -> R (some true) { s with heap := h' }) :
  wpAny (model prog w) A (do
   storeSet a gs v
   if (!wd && v.tooFull) = true then do
     g (relayAll v gs (SetTable.grown gs.size)).2.2
     storeSet a (relayAll v gs (SetTable.grown gs.size)).1 (relayAll v gs (SetTable.grown gs.size)).2.1
     pure (some true)
    else pure (some true)) R E s := by
 have b1 := Heap.SameBut.update s.heap a (Obj.putSet gs v)
 have g1 := sg_put (prog := prog) (w := w) ho hex hd el mem small fit gt
 refine wpAny_bind (wpAny_storeSet_of ho hd ?_ (fits_of_scanBound small))
 split
 ·have pp := relayAll_perm v gs (SetTable.grown gs.size)
  have pf := relayAll_fits v gs (SetTable.grown gs.size)
  have pg := relayAll_good gt gs (SetTable.grown gs.size)
  revert pp pf pg
  generalize relayAll v gs (SetTable.grown gs.size) = rr
  obtain ⟨ks, x, gave⟩ := rr
  intro pp pf pg
  have zz : ks.size = gs.size := by
   have := pp.length_eq
   simpa using this
  refine wpAny_bind (pass _ _ _ ?_)
  have m2 : ∀ k, S' k = true ↔ ∃ e ∈ ks.toList, (KI prog w).is k e.2 = true := fun k => (mem k).trans ⟨fun ⟨e, he, q⟩ => ⟨e, pp.mem_iff.mpr he, q⟩, fun ⟨e, he, q⟩ => ⟨e, pp.mem_iff.mp he, q⟩⟩
  have sm : ks.size < scanBound := zz ▸ small
  refine wpAny_bind (wpAny_storeSet_of g1.at_ rfl ?_ (fits_of_scanBound sm))
  have g2 := sg_put (prog := prog) (w := w) g1.at_ g1.ex rfl (el.perm pp) m2 sm pf pg
  rw [zz] at g2
  exact wpAny_pure (fin _ (b1.trans (Heap.SameBut.update _ a _)) ⟨_, _, _, _, g2⟩)
 ·exact wpAny_pure (fin _ b1 ⟨_, _, _, _, g1⟩)
theorem addG {a : Addr} {S : Int -> Bool} {n : Nat} {led : Bool} {k : Int} {x : Value} {Q : Bool -> Shared -> Prop} (hk : (KI prog w).is k x = true) (hx : x.scannable = true) (hS : SetG prog w s.heap a S n led) (room : n + 1 < scanBound)
  (fin : ∀ h', Heap.SameBut a s.heap h' -> SetG prog w h' a (fun j => S j || decide (j = k)) (if S k then n else n + 1) led -> Q (!S k) { s with heap := h' }) :
  wpAny (model prog w) A (setAddHashed a x ((KI prog w).hash k)) Q E s := by
 obtain ⟨o, fs, ep, u, G⟩ := hS
 have hn := G.many
 unfold setAddHashed setAddHashedIn
 refine wpAny_holding (wpAny_bind (wpAny_setState_of G.at_ G.dat G.fit ?_))
 dsimp only
 rw [byScan_of hx G.small G.el]
 simp only [↓reduceIte]
 unfold setAddByScan
 refine wpAny_bind ?_
 refine wpAny_bind (wpAny_rule ?_)
 refine wpAny_bind (wpAny_setScan_of hk G.at_ G.dat G.fit G.el ?_)
 cases hr : List.findIdx? (fun e => (KI prog w).is k e.2) fs.toList with
 | some j =>
  dsimp only
  obtain ⟨hj, hp, _⟩ := List.findIdx?_eq_some_iff_getElem.mp hr
  have hSk : S k = true := (G.mem k).mpr ⟨_, getElem_mem hj, hp⟩
  have := fin s.heap (Heap.SameBut.refl a s.heap) (SetG.congr ⟨o, fs, ep, u, G⟩ (fun i => by
   by_cases z : i = k
   ·subst z; rw [hSk]; simp
   ·simp [z]) (by rw [if_pos hSk]))
  rw [hSk] at this
  exact wpAny_pure (wpAny_pure this)
 | none =>
  dsimp only
  have hSk : S k = false := by
   cases z : S k with
   | false => rfl
   | true =>
    obtain ⟨e, he, hp⟩ := (G.mem k).mp z
    have := List.findIdx?_eq_none_iff.mp hr e he
    rw [hp] at this; cases this
  have pass : ∀ (b : Bool) {s1 : Shared} {R : Unit -> Shared -> Prop}, R () s1 -> wpAny (model prog w) A (match b with | true => rule "set.scan.the-table-gave-way" | false => pure ()) R E s1 := fun b s1 R hq => by
   cases b
   ·exact wpAny_pure hq
   ·exact wpAny_rule hq
  have lp := layNew_perm u fs ((KI prog w).hash k) x
  have lf := layNew_fits u fs ((KI prog w).hash k) x
  have lg := layNew_good G.good fs ((KI prog w).hash k) x
  revert lp lf lg
  generalize layNew u fs ((KI prog w).hash k) x = ll
  obtain ⟨gs, v, wd, gave⟩ := ll
  intro lp lf lg
  dsimp only at lp lf lg ⊢
  rw [Array.toList_push] at lp
  have el : ElemsOf (KI prog w) gs.toList := (G.el.push hk hx).perm lp
  have mm := fun j => mem_push_iff hk G.mem lp j
  have zz : gs.size = n + 1 := by
   have := lp.length_eq
   simp only [Array.length_toList, length_append, length_cons, length_nil] at this
   omega
  have sm : gs.size < scanBound := by omega
  refine wpAny_bind (pass _ ?_)
  have last : ∀ h', Heap.SameBut a s.heap h' -> SetG prog w h' a (fun j => S j || decide (j = k)) gs.size led -> Q true { s with heap := h' } := fun h' b g => by
   have := fin h' b
   rw [hSk] at this
   exact this (g.congr (fun _ => rfl) zz)
  split
  ·refine wpAny_bind ?_
   rw [hashByValue_scannable 8 hx]
   refine wpAny_pure ?_
   refine tailG (fun b s1 R hq => by cases b; exact wpAny_pure hq; exact wpAny_rule hq) G.at_ G.ex G.dat el mm sm ?_ ?_ fun h' b g => wpAny_pure (last h' b g)
   ·split
    ·exact lf
    ·exact SetTable.fits_plain_off lf
   ·split
    ·exact lg
    ·exact ⟨lg.1, fun z => by cases z⟩
  ·refine wpAny_bind (wpAny_pure ?_)
   simp only [↓reduceIte]
   exact tailG (fun b s1 R hq => by cases b; exact wpAny_pure hq; exact wpAny_rule hq) G.at_ G.ex G.dat el mm sm lf lg fun h' b g => wpAny_pure (last h' b g)
end
end
section
section
variable {prog : Program} {w : World} {A : Around} {E : Value -> Shared -> Prop} {s : Shared}
def inL (val : Nat -> Int) (i : Nat) : Int -> Bool := fun j => (firstMet val i).any (· == j)
section
variable {R : Result -> Shared -> Prop} {I : Addr} {fp wr : List Addr} {Gn : Array GenState -> Array GenState -> Prop} {n : Nat} {P : Nat -> Value -> Prop} {St : Nat -> Shared -> Prop}
theorem loopG (W : WalksS prog w A.in1 I fp wr Gn n P St) (a : Addr) (off : a ∉ fp) (val : Nat -> Int) (hv : ∀ i v, P i v -> ∃ t, v = .int (val i) t) (small : n + 1 < scanBound) (led : Bool) :
  ∀ (r i : Nat) (s : Shared), n - i = r -> i <= n -> St i s -> SetG prog w s.heap a (inL val i) (firstMet val i).length led ->
   (∀ s', Moved (a :: wr) Gn s s' -> SetG prog w s'.heap a (inL val n) (firstMet val n).length led -> R (.ok (.ret .none)) s') ->
   codeAny (model prog w) A (.builtin "set.update.loop" ⟨[.ref a, .ref I], []⟩) R s := by
 have offw : a ∉ wr := fun z => off (W.sub _ z)
 have up : ∀ b ∈ wr, b ∈ a :: wr := fun b z => mem_cons_of_mem _ z
 intro r
 induction r with
 | zero =>
  intro i s hr hi st g fin
  obtain rfl : i = n := by omega
  refine codeAny_builtin F.entry_set_update_loop ?_
  rw [Around.under_plainId F.plain_set_update_loop _]
  show wpAny _ A.in1 (pyNext (.ref I) >>= _) _ _ s
  refine wpAny_bind (W.done s _ _ st fun s1 mv => ?_)
  exact wpAny_pure (fin s1 (mv.mono up) (g.stay fun o e => mv.heap a o offw e))
 | succ r ih =>
  intro i s hr hi st g fin
  have lt : i < n := by omega
  refine codeAny_builtin F.entry_set_update_loop ?_
  rw [Around.under_plainId F.plain_set_update_loop _]
  show wpAny _ A.in1 (pyNext (.ref I) >>= _) _ _ s
  refine wpAny_bind (W.item i s _ _ lt st fun v s1 pv st1 mv => ?_)
  obtain ⟨t, rfl⟩ := hv i v pv
  have g1 := g.stay fun o e => mv.heap a o offw e
  show wpAny _ A.in1 (holding [Value.int (val i) t] (setAdd a (.int (val i) t)) >>= _) _ _ s1
  refine wpAny_bind (wpAny_holding ?_)
  unfold setAdd
  refine wpAny_holding ?_
  refine wpAny_bind ((intKind prog w).pyHash (k := val i) (intKind_is _ _ _ _) ?_)
  refine addG (s := { s1 with toks := s1.toks + 1 }) (intKind_is _ _ _ _) rfl g1 (by have := firstMet_length_le val i; omega) fun h2 sb g2 => ?_
  have g3 : SetG prog w h2 a (inL val (i + 1)) (firstMet val (i + 1)).length led := g2.congr (fun j => by unfold inL; rw [firstMet_succ, step_any]) (by rw [firstMet_succ, step_length]; rfl)
  refine wpAny_pure ⟨plainId_quiet F.plain_set_update_loop _, ih (i + 1) _ (by omega) lt (W.frame _ s1 _ _ st1 (Nat.le_succ _) fun b hb o e => ?_) g3 fun s2 mv2 g4 => ?_⟩
  ·rw [sb.2 b (fun z : b = a => off (by rw [<- z]; exact hb))]; exact e
  ·refine fin s2 (Moved.trans W.gtrans ((mv.mono up).then_heap (Nat.le_succ _) fun b o hb e => ?_) mv2) g4
   rw [sb.2 b (fun z : b = a => hb (by rw [z]; exact mem_cons_self))]; exact e
end
def ledOf (w : World) : Bool := !(w.params.followText "set-order")
def setObj0 (w : World) : Obj := { cls := .type "set", dict := none, data := .set #[] 0 (.fresh 0 0 (ledOf w)) }
theorem code_newG (a : Value) {Q : Value -> Shared -> Prop} (h : Q (.ref s.heap.objs.size) { s with heap := s.heap.push (setObj0 w) }) :
  codeAny (model prog w) A (.call (.builtin "set.__new__") ⟨[.type "set", a], []⟩) (wants Q E) s := by
 refine codeAny_of_tree ?_
 show wpAny _ A.in1 (do checkBuiltinCall "set.__new__" ⟨[.type "set", a], []⟩; again (.builtin "set.__new__" ⟨[.type "set", a], []⟩)) _ _ s
 refine wpAny_bind (wpAny_of_eq (PySem.F.newCall_set_1 a) (wpAny_pure ⟨plainId_quiet PySem.F.plain_set_new _, codeAny_builtin PySem.F.entry_set_new ?_⟩))
 rw [Around.under_plainId PySem.F.plain_set_new _]
 unfold Builtin.«set.__new__» Builtin.Frozenset.newClass
 have hsub := PySem.sub_set_self
 obtain ⟨hp, g, d, tk, os⟩ := s
 dsimp only
 wp_walk
 refine wpAny_askSetting (wpAny_pure ?_)
 dsimp only
 simp only [newObj]
 refine wpAny_bind (wpAny_alloc (wpAny_pure ?_))
 exact wpAny_pure h
theorem setObj0_G {h : Heap} {a : Addr} (ho : h.get? a = some (setObj0 w)) : SetG prog w h a (fun _ => false) 0 (ledOf w) :=
 ⟨setObj0 w, #[], 0, .fresh 0 0 (ledOf w), ho, ⟨rfl, rfl, rfl⟩, rfl, fun e z => by simp at z, fun k => by simp, by decide, by rfl, rfl, rfl, fun _ => List.Pairwise.nil⟩
set_option maxHeartbeats 3200000 in
theorem callSetG {l : Addr} {items : Array Value} {ns : List Int} {Q : Value -> Shared -> Prop} (hh : A.handled = none) (hl : s.heap.IsList l items) (hi : IntsAre items.toList ns) (small : items.size + 1 < scanBound)
  (fin : ∀ (h' : Heap) (tk : Nat), SetG prog w h' s.heap.objs.size (inL (fun i => ns.getD i 0) items.size) (firstMet (fun i => ns.getD i 0) items.size).length (ledOf w) ->
   (∀ b o, b < s.heap.objs.size -> s.heap.get? b = some o -> h'.get? b = some o) -> Q (.ref s.heap.objs.size) { s with heap := h', toks := tk }) :
  wpAny (model prog w) A (call (.type "set") [.ref l]) Q E s := by
 obtain ⟨c, tl, hmro⟩ := PySem.F.called_set.mro
 have hmade := PySem.F.called_set.made
 have hsub := PySem.F.called_set.sub
 refine wpAny_call (codeAny_of_tree ?_)
 show wpAny _ _ (callAny (.type "set") _) _ _ _
 refine wpAny_pure ⟨Code.quiet_builtin _ (by decide +kernel), codeAny_builtin PySem.F.entry_type_call ?_⟩
 rw [Around.under_plain (weight_type_call_type "set" [.ref l] []) rfl]
 have h1 := PySem.F.called_set.notType
 have h2 := PySem.F.called_set.canCreate
 have hct := PySem.F.typeCall_set_1 (.ref l)
 repeat (any_goals (first | assumption | wp_step))
 refine codeAny_mono (code_newG (.ref l) (E := E) (Q := fun obj s1 => obj = .ref s.heap.objs.size /\ s1 = { s with heap := s.heap.push (setObj0 w) }) ⟨rfl, rfl⟩) fun r s1 hr => ?_
 cases r with
 | error e => exact hr
 | ok fl =>
  cases fl with
  | ret obj =>
   obtain ⟨rfl, rfl⟩ := hr
   have hS : (s.heap.push (setObj0 w)).get? s.heap.objs.size = some (setObj0 w) := Heap.get?_push_size _ rfl
   have hT : Shared.TypeIs { s with heap := s.heap.push (setObj0 w) } (.ref s.heap.objs.size) "set" := ⟨_, hS, rfl⟩
   have hli := PySem.F.called_set.init.lookup
   have hbi := PySem.F.called_set.init.bind (.ref s.heap.objs.size)
   repeat (any_goals (first | assumption | wp_step))
   refine codeAny_mono (codeAny_call_builtin (R := wants (fun r s2 => r = .none /\ ∃ h' tk, s2 = { s with heap := h', toks := tk } /\ SetG prog w h' s.heap.objs.size (inL (fun i => ns.getD i 0) items.size) (firstMet (fun i => ns.getD i 0) items.size).length (ledOf w) /\
     (∀ b o, b < s.heap.objs.size -> s.heap.get? b = some o -> h'.get? b = some o)) E) PySem.F.called_set.init.plain PySem.F.entry_set_init (PySem.check_set_init_1 hT ?_)) fun r2 s2 hr2 => ?_
   ·obtain ⟨ol, hol, hcl, nl, hdl⟩ := hl
    obtain ⟨ocls, odict, odata, oslots⟩ := ol
    simp only at hcl hdl
    subst hcl; subst hdl
    have hol' : (s.heap.push (setObj0 w)).get? l = some { cls := .type "list", dict := odict, data := .seq items nl, slots := oslots } := Heap.get?_push_of_some _ hol
    have hsls := PySem.F.sub_list_set
    have hslf := PySem.F.sub_list_frozenset
    have hne : (Value.type "list" == Value.type "dict") = false := by decide
    have hl1 : (s.heap.push (setObj0 w)).IsList l items := ⟨_, hol', rfl, nl, rfl⟩
    unfold Builtin.«set.__init__» noKeywords Builtin.Frozenset.updateFrom
    generalize hPI : pyIter = PI
    wp_walk
    subst hPI
    refine wpAny_pyIter_list hl1 ?_
    refine wpAny_bind (wpAny_runValue ?_)
    have hlS : l < s.heap.objs.size := Heap.lt_size hol
    have hh3 : A.in1.in1.in1.handled = none := by simp [hh]
    have hsz1 : (s.heap.push (setObj0 w)).objs.size = s.heap.objs.size + 1 := by rw [Heap.size_push]
    have hneI : l ≠ (s.heap.push (setObj0 w)).objs.size := by rw [hsz1]; exact Nat.ne_of_lt (Nat.lt_succ_of_lt hlS)
    have hSf : s.heap.objs.size ∉ [(s.heap.push (setObj0 w)).objs.size, l] := by
     simp only [mem_cons, not_mem_nil, or_false, not_or]
     exact ⟨by rw [hsz1]; exact Nat.ne_of_lt (Nat.lt_succ_self _), Nat.ne_of_gt hlS⟩
    refine loopG ((Walks.list hh3 _ l hneI items).toS) s.heap.objs.size hSf (fun i => ns.getD i 0) (fun i v hv => IntsAre.int_at hi i v (by rw [Array.getElem?_toList]; exact hv)) small (ledOf w) (items.size - 0) 0 _ (by omega) (Nat.zero_le _) ⟨⟨_, Heap.get?_push_size _ rfl, rfl, rfl⟩, (hl1.push _)⟩ ?g0 ?gR
    case g0 => exact (setObj0_G (Heap.get?_push_of_some _ hS)).congr (fun _ => rfl) rfl
    case gR =>
     intro s' mv g
     obtain ⟨h', g', d', tk', os'⟩ := s'
     have eg : g' = s.gens := mv.gens
     have ed : d' = s.drawn := mv.drawn
     have eo : os' = s.os := mv.os
     subst eg; subst ed; subst eo
     show wpAny _ _ _ _ _ _
     refine wpAny_pure ?_
     show wpAny _ _ (ret Value.none) _ _ _
     refine wpAny_pure ⟨rfl, h', tk', rfl, g, fun b o hb e => ?_⟩
     exact mv.heap b o (by simp only [mem_cons, not_mem_nil, or_false, not_or]; exact ⟨Nat.ne_of_lt hb, by rw [Heap.size_push]; exact Nat.ne_of_lt (Nat.lt_succ_of_lt hb)⟩) (Heap.get?_push_of_some _ (Heap.get?_push_of_some _ e))
   ·cases r2 with
    | error e => exact hr2
    | ok fl2 =>
     cases fl2 with
     | ret r =>
      obtain ⟨rfl, h', tk, rfl, g, kk⟩ := hr2
      repeat (any_goals (first | assumption | wp_step))
      exact fin _ _ g kk
     | _ => exact hr2.elim
  | _ => exact hr.elim
end
end
section
theorem slot_si_next : Slot "set_iterator" "__next__" "set_iterator.__next__" :=
 .of (owner := "set_iterator") (n := "__next__") (by rw [typeLookup_type, builtinLookup_eq_fast]; kernel_rfl) (by decide +kernel) (by decide +kernel) (by decide +kernel)
  (by first | exact .inl (by decide +kernel) | exact .inr (by decide +kernel)) (by rw [isSubtype_type]; kernel_rfl)
theorem entry_si_next : entryFor table "set_iterator.__next__" = some Builtin.«set_iterator.__next__» := entryFor_of_tree (by kernel_rfl)
theorem args_si_next (a : Value) : argsOk "set_iterator.__next__" ⟨[a], []⟩ := by unfold argsOk; kernel_rfl
theorem entry_set_iter : entryFor table "set.__iter__" = some Builtin.«frozenset.__iter__» := entryFor_alias (id' := "frozenset.__iter__") (by kernel_rfl) rfl (by decide +kernel) (by kernel_rfl)
section
variable {prog : Program} {w : World} {A : Around} {E : Value -> Shared -> Prop} {s : Shared}
def IsSI (h : Heap) (it : Addr) (first : Value) (i : Nat) (a : Addr) (n ep : Nat) : Prop := ∃ o, h.get? it = some o /\ o.cls = .type "set_iterator" /\ o.data = .fields #[first, .int i 0, .ref a, .int n 0, .int ep 0]
theorem IsSI.typeIs {it : Addr} {first : Value} {i : Nat} {a : Addr} {n ep : Nat} (x : IsSI s.heap it first i a n ep) : s.TypeIs (.ref it) "set_iterator" := let ⟨o, ho, hc, _⟩ := x; ⟨o, ho, hc⟩
theorem next_int {it a : Addr} {slot : Int} {t0 i n ep nx : Nat} {x : Value} {S : Int -> Bool} {led : Bool} {o : Obj} {fs : Array (Int × Value)} {u : SetTable} {Q : Option Value -> Shared -> Prop} (hit : IsSI s.heap it (.int slot t0) i a n ep) (G : SG prog w s.heap a S n led o fs ep u)
  (hn : ∀ (A : Around) (Q : Option (Value × Nat) -> Shared -> Prop) (E : Value -> Shared -> Prop), Q (some (x, nx)) s -> wpAny (model prog w) A (setNext a slot.toNat i ep) Q E s)
  (hQ : ∀ h', IsSI h' it (.int nx 0) (i + 1) a n ep -> Heap.SameBut it s.heap h' -> Q (some x) { s with heap := h' }) :
  wpAny (model prog w) A (pyNext (.ref it)) Q E s := by
 obtain ⟨oi, ho, hc, hd⟩ := id hit
 unfold pyNext
 refine wpAny_bind (wpAny_attempt (wpAny_callSpecial?_slot (name := Str.ofString "__next__") hit.typeIs slot_si_next
  (wpAny_call_entry slot_si_next hit.typeIs entry_si_next ?_ (args_si_next _))))
 show wpAny _ _ (fieldsOf (.ref it) >>= _) _ _ s
 refine wpAny_bind (wpAny_fieldsOf ho hd ?_)
 show wpAny _ _ (setEntries a >>= _) _ _ s
 refine wpAny_bind (wpAny_setEntries_of G.at_ G.dat G.fit ?_)
 rw [if_neg (by rw [G.many]; simp)]
 dsimp only
 refine wpAny_bind ?_
 show wpAny _ _ (setNext a slot.toNat (i : Int).toNat (ep : Int).toNat) _ _ s
 rw [Int.toNat_natCast, Int.toNat_natCast]
 refine hn _ _ _ ?_
 dsimp only
 refine wpAny_bind (wpAny_setField ho hd (by simp) ?_)
 have g1 := Heap.get?_update_self (Obj.mapFields (·.setIfInBounds 0 (rawInt nx))) ho (Obj.isFreed_of_fields (Obj.data_mapFields hd _))
 have d1 := Obj.data_mapFields hd (·.setIfInBounds 0 (rawInt nx))
 refine wpAny_bind (wpAny_setField g1 d1 (by simp) (wpAny_pure ⟨x, rfl, wpAny_pure (hQ _ ?_ ((Heap.SameBut.update ..).trans (Heap.SameBut.update ..)))⟩))
 refine ⟨_, Heap.get?_update_self _ g1 (Obj.isFreed_of_fields (Obj.data_mapFields d1 _)), (Obj.cls_mapFields ..).trans ((Obj.cls_mapFields ..).trans hc), ?_⟩
 rw [Obj.data_mapFields d1]
 simp [rawInt]
theorem next_intE {it a : Addr} {slot : Int} {t0 i n ep : Nat} {S : Int -> Bool} {led : Bool} {o : Obj} {fs : Array (Int × Value)} {u : SetTable} {Q : Option Value -> Shared -> Prop} (hh : A.handled = none) (hit : IsSI s.heap it (.int slot t0) i a n ep) (G : SG prog w s.heap a S n led o fs ep u)
  (hn : ∀ (A : Around) (Q : Option (Value × Nat) -> Shared -> Prop) (E : Value -> Shared -> Prop), Q none s -> wpAny (model prog w) A (setNext a slot.toNat i ep) Q E s)
  (hQ : ∀ h', Heap.ExtBut it s.heap h' -> Q none { s with heap := h' }) :
  wpAny (model prog w) A (pyNext (.ref it)) Q E s := by
 obtain ⟨oi, ho, hc, hd⟩ := id hit
 unfold pyNext
 refine wpAny_bind (wpAny_attempt (wpAny_callSpecial?_slot (name := Str.ofString "__next__") hit.typeIs slot_si_next
  (wpAny_call_entry slot_si_next hit.typeIs entry_si_next ?_ (args_si_next _))))
 show wpAny _ _ (fieldsOf (.ref it) >>= _) _ _ s
 refine wpAny_bind (wpAny_fieldsOf ho hd ?_)
 show wpAny _ _ (setEntries a >>= _) _ _ s
 refine wpAny_bind (wpAny_setEntries_of G.at_ G.dat G.fit ?_)
 rw [if_neg (by rw [G.many]; simp)]
 dsimp only
 refine wpAny_bind ?_
 show wpAny _ _ (setNext a slot.toNat (i : Int).toNat (ep : Int).toNat) _ _ s
 rw [Int.toNat_natCast, Int.toNat_natCast]
 refine hn _ _ _ ?_
 dsimp only
 refine wpAny_bind (wpAny_setField ho hd (by simp) ?_)
 show wpAny _ _ (newExc (.type "StopIteration") [] >>= _) _ _ _
 refine wpAny_bind ?_
 simp only [newExc, newTuple]
 refine wpAny_bind (wpAny_newObj_type ?_ (by size_fits))
 refine wpAny_bind (m := firstArgMember _ _) (wpAny_of_eq (a := Value.none) (by first | rfl | (simp only [firstArgMember]; rfl)) ?_)
 refine wpAny_newObj_type ?_ (by size_fits)
 simp only [raiseNew]
 refine wpAny_bind (wpAny_handled ?_)
 first | rw [show A.in1.handled = none from hh] | rw [hh]
 refine wpAny_bind (wpAny_pure (wpAny_throw ?_))
 refine wpAny_bind (wpAny_isInstance (T := "StopIteration") (b := true) ⟨_, Heap.get?_push_size _ rfl, rfl⟩ isSubtype_stop ?_)
 exact wpAny_pure (hQ _ (((Heap.SameBut.update ..).extBut.push _).push _))
theorem byText_ev {Q : Bool -> Shared -> Prop} (h : Q (w.params.followText "set-order") s) : wpAny (model prog w) A setsByText Q E s := by
 unfold setsByText
 exact wpAny_bind (wpAny_askSetting (wpAny_pure h))
variable {a : Addr} {S : Int -> Bool} {n ep : Nat} {led : Bool} {o : Obj} {fs : Array (Int × Value)} {u : SetTable}
theorem setNext_text (G : SG prog w s.heap a S n led o fs ep u) (ht : w.params.followText "set-order" = true) (slot i : Nat) {Q : Option (Value × Nat) -> Shared -> Prop} (h : Q (((pickOrder (w.params.setOrder a ep) fs)[i]?).map fun e => (e.2, slot)) s) : wpAny (model prog w) A (setNext a slot i ep) Q E s := by
 unfold setNext
 refine wpAny_bind (wpAny_setState_of G.at_ G.dat G.fit ?_)
 dsimp only
 refine wpAny_bind (byText_ev ?_)
 rw [ht]
 simp only [if_true, bne_self_eq_false, Bool.false_eq_true, if_false]
 refine wpAny_bind ?_
 unfold setWalk
 refine wpAny_bind (wpAny_setState_of G.at_ G.dat G.fit ?_)
 dsimp only
 refine wpAny_bind (byText_ev ?_)
 rw [ht]
 simp only [if_true]
 exact wpAny_bind (wpAny_askSetting (wpAny_pure (wpAny_pure h)))
theorem setNext_places (G : SG prog w s.heap a S n led o fs ep u) (ht : w.params.followText "set-order" = false) (hl : led = true) (hp : (!u.plain && decide (fs.size > 1)) = false) (slot i : Nat) {Q : Option (Value × Nat) -> Shared -> Prop}
  (h : Q (match fs[SetTable.below u.place slot]?, u.place[SetTable.below u.place slot]? with | some (_, x), some j => some (x, j + 1) | _, _ => none) s) : wpAny (model prog w) A (setNext a slot i ep) Q E s := by
 unfold setNext
 refine wpAny_bind (wpAny_setState_of G.at_ G.dat G.fit ?_)
 dsimp only
 refine wpAny_bind (byText_ev ?_)
 rw [ht]
 simp only [Bool.false_eq_true, if_false]
 show wpAny _ _ (if (!u.plain && decide (fs.size > 1)) = true then _ else _) _ _ s
 rw [hp]
 simp only [Bool.false_eq_true, if_false]
 show wpAny _ _ ((if (!u.led && !fs.isEmpty) = true then unsupported "set:maker-not-led" else pure ()) >>= _) _ _ s
 rw [G.good.1, hl]
 simp only [Bool.not_true, Bool.false_and, Bool.false_eq_true, if_false]
 exact wpAny_bind (wpAny_pure (wpAny_pure h))
end
end
section
section
variable {prog : Program} {w : World} {A : Around} {E : Value -> Shared -> Prop} {s : Shared}
theorem choose_any {src : Source} {n : Nat} (hn : n ≠ 0) {Q : Nat -> Shared -> Prop} (h : ∀ v, v < n -> Q v { s with drawn := s.drawn.bump src }) : wpAny (model prog w) A (choose src n) Q E s := fun Γ p hΓ => by
 unfold choose
 exact ⟨hn, h _ (Nat.mod_lt _ (Nat.pos_of_ne_zero hn))⟩
theorem drawOrder_any {α : Type} : ∀ (n : Nat) (xs : List α) {s : Shared} {Q : List α -> Shared -> Prop}, xs.length = n -> (∀ ys d, ys.Perm xs -> Q ys { s with drawn := d }) -> wpAny (model prog w) A (drawOrder n xs) Q E s
 | 0, xs, s, Q, h, q => by
  rw [List.length_eq_zero_iff.mp h] at q ⊢
  exact wpAny_pure (q [] s.drawn (.refl _))
 | n + 1, [], s, Q, h, q => by cases h
 | n + 1, x :: xs, s, Q, h, q => by
  show wpAny _ _ (choose .order (x :: xs).length >>= _) _ _ s
  refine wpAny_bind (choose_any (by simp) fun v hv => ?_)
  rw [getElem?_eq_getElem hv]
  dsimp only
  refine wpAny_bind (drawOrder_any n _ (by rw [length_eraseIdx_of_lt hv]; omega) fun ys d hp => ?_)
  exact wpAny_pure (q _ d ((hp.cons _).trans (erase_perm (x :: xs) v hv)))
variable {a : Addr} {S : Int -> Bool} {n ep : Nat} {led : Bool} {o : Obj} {fs : Array (Int × Value)} {u : SetTable}
theorem iter_set (G : SG prog w s.heap a S n led o fs ep u) {Q : Value -> Shared -> Prop}
  (h1 : (w.params.followText "set-order" = true \/ (!u.plain && decide (fs.size > 1)) = false) -> Q (.ref s.heap.objs.size) { s with heap := s.heap.push { cls := .type "set_iterator", data := .fields #[.int 0 0, .int 0 0, .ref a, .int n 0, .int ep 0] } })
  (h2 : ∀ (ys : List Nat) d, ys.Perm (List.range n) -> Q (.ref (s.heap.objs.size + 1)) { s with heap := (s.heap.push (seqObj "tuple" (ys.map fun (i : Nat) => Value.int i 0).toArray 0)).push { cls := .type "set_iterator", data := .fields #[.ref s.heap.objs.size, .int 0 0, .ref a, .int n 0, .int ep 0] }, drawn := d }) :
  wpAny (model prog w) A (pyIter (.ref a)) Q E s := by
 have hT : s.TypeIs (.ref a) "set" := ⟨o, G.at_, G.ex.1⟩
 refine wpAny_pyIter_slot hT PySem.F.slot_set_iter (wpAny_call_entry PySem.F.slot_set_iter hT entry_set_iter ?_ (PySem.F.args_set_iter_1 _))
 show wpAny _ _ (Builtin.Frozenset.sizeOf a >>= _) _ _ s
 unfold Builtin.Frozenset.sizeOf
 refine wpAny_bind (wpAny_bind (wpAny_setEntries_of G.at_ G.dat G.fit (wpAny_pure ?_)))
 show wpAny _ _ (setDrawn a >>= _) _ _ s
 unfold setDrawn
 refine wpAny_bind (wpAny_bind (wpAny_setState_of G.at_ G.dat G.fit ?_))
 dsimp only
 refine wpAny_bind (byText_ev (wpAny_pure ?_))
 have last : ∀ (s1 : Shared) (first : Value), s1.heap.get? a = some o -> (Q (.ref s1.heap.objs.size) { s1 with heap := s1.heap.push { cls := .type "set_iterator", data := .fields #[first, .int 0 0, .ref a, .int n 0, .int ep 0] } }) ->
   wpAny (model prog w) A.in1 (do
    let e ← setEpoch a
    let r ← newFields "set_iterator" [first, rawInt 0, .ref a, rawInt fs.size, rawInt e]
    ret r) (fun fin s' => ∃ v, fin = Fin.done (Flow.ret v) /\ ∃ T' r, s'.TypeIs v T' /\ typeLookup (Value.type T') (Str.ofString "__next__") = pure (some r) /\ Q v s') E s1 := fun s1 first ha q => by
  refine wpAny_bind (wpAny_setEpoch_of ha G.dat G.fit ?_)
  rw [G.many]
  exact wpAny_bind (wpAny_newObj_type (wpAny_pure ⟨_, rfl, "set_iterator", _, ⟨_, Heap.get?_push_size _ rfl, rfl⟩, slot_si_next.lookup, q⟩))
 show wpAny _ _ (if (!w.params.followText "set-order" && (!u.plain && decide (fs.size > 1))) = true then _ else _) _ _ s
 cases hb : (!w.params.followText "set-order" && (!u.plain && decide (fs.size > 1))) with
 | true =>
  simp only [if_true]
  refine wpAny_bind (drawOrder_any _ _ (by simp) fun ys d hp => ?_)
  refine wpAny_bind (wpAny_newTuple ?_ (by have := hp.length_eq; have := fits_of_scanBound G.small; simp at *; omega))
  refine last _ _ (Heap.get?_push_of_some _ G.at_) ?_
  have := h2 ys d (by rw [<- G.many]; exact hp)
  have e : (s.heap.push (seqObj "tuple" (ys.map fun (i : Nat) => Value.int i 0).toArray 0)).objs.size = s.heap.objs.size + 1 := by rw [Heap.size_push]
  rw [<- e] at this
  exact this
 | false =>
  simp only [Bool.false_eq_true, if_false]
  refine last s (rawInt 0) G.at_ (h1 ?_)
  cases ht : w.params.followText "set-order" with
  | true => exact .inl rfl
  | false => rw [ht] at hb; exact .inr hb
end
end
section
section
variable {prog : Program} {w : World} {A : Around} {E : Value -> Shared -> Prop} {s : Shared}
variable {it a pt : Addr} {i n ep : Nat} {S : Int -> Bool} {led : Bool} {o : Obj} {fs : Array (Int × Value)} {u : SetTable} {items : Array Value}
theorem next_drawn {y t : Nat} {e : Int × Value} {Q : Option Value -> Shared -> Prop} (hit : IsSI s.heap it (.ref pt) i a n ep) (G : SG prog w s.heap a S n led o fs ep u) (hp : s.heap.IsTuple pt items) (hy : items[i]? = some (.int (y : Int) t)) (he : fs[y]? = some e)
  (hQ : ∀ h', IsSI h' it (.ref pt) (i + 1) a n ep -> Heap.SameBut it s.heap h' -> Q (some e.2) { s with heap := h' }) :
  wpAny (model prog w) A (pyNext (.ref it)) Q E s := by
 obtain ⟨oi, ho, hc, hd⟩ := id hit
 obtain ⟨ot, hot, _, nt, hdt⟩ := hp
 unfold pyNext
 refine wpAny_bind (wpAny_attempt (wpAny_callSpecial?_slot (name := Str.ofString "__next__") hit.typeIs slot_si_next
  (wpAny_call_entry slot_si_next hit.typeIs entry_si_next ?_ (args_si_next _))))
 show wpAny _ _ (fieldsOf (.ref it) >>= _) _ _ s
 refine wpAny_bind (wpAny_fieldsOf ho hd ?_)
 show wpAny _ _ (setEntries a >>= _) _ _ s
 refine wpAny_bind (wpAny_setEntries_of G.at_ G.dat G.fit ?_)
 rw [if_neg (by rw [G.many]; simp)]
 show wpAny _ _ (seqItems? (.ref pt) >>= _) _ _ s
 refine wpAny_bind (wpAny_seqItems hot hdt ?_)
 simp only [Int.toNat_natCast, hy]
 refine wpAny_bind ?_
 unfold setNextDrawn
 refine wpAny_bind (wpAny_setState_of G.at_ G.dat G.fit ?_)
 simp only [bne_self_eq_false, Bool.false_eq_true, if_false, he]
 refine wpAny_pure ?_
 refine wpAny_bind (wpAny_setField ho hd (by simp) (wpAny_pure ⟨e.2, rfl, wpAny_pure (hQ _ ?_ (Heap.SameBut.update ..))⟩))
 exact ⟨_, Heap.get?_update_self _ ho (Obj.isFreed_of_fields (Obj.data_mapFields hd _)), (Obj.cls_mapFields ..).trans hc, by
  rw [Obj.data_mapFields hd]; simp [rawInt]⟩
theorem next_drawnE {Q : Option Value -> Shared -> Prop} (hh : A.handled = none) (hit : IsSI s.heap it (.ref pt) i a n ep) (G : SG prog w s.heap a S n led o fs ep u) (hp : s.heap.IsTuple pt items) (hy : items[i]? = none)
  (hQ : ∀ h', Heap.ExtBut it s.heap h' -> Q none { s with heap := h' }) :
  wpAny (model prog w) A (pyNext (.ref it)) Q E s := by
 obtain ⟨oi, ho, hc, hd⟩ := id hit
 obtain ⟨ot, hot, _, nt, hdt⟩ := hp
 unfold pyNext
 refine wpAny_bind (wpAny_attempt (wpAny_callSpecial?_slot (name := Str.ofString "__next__") hit.typeIs slot_si_next
  (wpAny_call_entry slot_si_next hit.typeIs entry_si_next ?_ (args_si_next _))))
 show wpAny _ _ (fieldsOf (.ref it) >>= _) _ _ s
 refine wpAny_bind (wpAny_fieldsOf ho hd ?_)
 show wpAny _ _ (setEntries a >>= _) _ _ s
 refine wpAny_bind (wpAny_setEntries_of G.at_ G.dat G.fit ?_)
 rw [if_neg (by rw [G.many]; simp)]
 show wpAny _ _ (seqItems? (.ref pt) >>= _) _ _ s
 refine wpAny_bind (wpAny_seqItems hot hdt ?_)
 simp only [Int.toNat_natCast, hy]
 have g1 := Heap.get?_update_self (Obj.mapFields (·.setIfInBounds 0 (rawInt 0))) ho (Obj.isFreed_of_fields (Obj.data_mapFields hd _))
 have d1 := Obj.data_mapFields hd (·.setIfInBounds 0 (rawInt 0))
 refine wpAny_bind (wpAny_setField ho hd (by simp) ?_)
 refine wpAny_bind (wpAny_setField g1 d1 (by simp) ?_)
 show wpAny _ _ (newExc (.type "StopIteration") [] >>= _) _ _ _
 refine wpAny_bind ?_
 simp only [newExc, newTuple]
 refine wpAny_bind (wpAny_newObj_type ?_ (by size_fits))
 refine wpAny_bind (m := firstArgMember _ _) (wpAny_of_eq (a := Value.none) (by first | rfl | (simp only [firstArgMember]; rfl)) ?_)
 refine wpAny_newObj_type ?_ (by size_fits)
 simp only [raiseNew]
 refine wpAny_bind (wpAny_handled ?_)
 first | rw [show A.in1.handled = none from hh] | rw [hh]
 refine wpAny_bind (wpAny_pure (wpAny_throw ?_))
 refine wpAny_bind (wpAny_isInstance (T := "StopIteration") (b := true) ⟨_, Heap.get?_push_size _ rfl, rfl⟩ isSubtype_stop ?_)
 exact wpAny_pure (hQ _ ((((Heap.SameBut.update ..).trans (Heap.SameBut.update ..)).extBut.push _).push _))
end
end
section
section
variable {prog : Program} {w : World} {A : Around} {E : Value -> Shared -> Prop} {s : Shared}
def MD (w : World) (h : Heap) (a : Addr) (ws : List Value) (i n ep : Nat) (led : Bool) (fs : Array (Int × Value)) (u : SetTable) (first : Value) : Prop :=
 (w.params.followText "set-order" = true /\ (∃ (k : Int), ∃ t : Nat, first = .int k t) /\ ws = (pickOrder (w.params.setOrder a ep) fs).toList.map (·.2)) \/
 (w.params.followText "set-order" = false /\ led = true /\ (!u.plain && decide (fs.size > 1)) = false /\ Up u.place /\ u.place.size = fs.size /\ (∃ k : Nat, ∃ t : Nat, first = .int (k : Int) t /\ SetTable.below u.place k = i) /\ ws = fs.toList.map (·.2)) \/
 (∃ pt, ∃ ys : List Nat, first = .ref pt /\ h.IsTuple pt (ys.map fun (y : Nat) => Value.int y 0).toArray /\ (∀ y ∈ ys, y < fs.size) /\ ws = ys.map fun y => (fs.getD y default).2)
def StS (prog : Program) (w : World) (it a : Addr) (ws : List Value) (i : Nat) (s : Shared) : Prop := ∃ S n led o fs ep u first, SG prog w s.heap a S n led o fs ep u /\ IsSI s.heap it first i a n ep /\ ws.length = n /\ MD w s.heap a ws i n ep led fs u first
variable {it a : Addr} {ws : List Value} {i : Nat}
theorem SG.to {h h' : Heap} {S : Int -> Bool} {n ep : Nat} {led : Bool} {o : Obj} {fs : Array (Int × Value)} {u : SetTable} (G : SG prog w h a S n led o fs ep u) (k : h'.get? a = some o) : SG prog w h' a S n led o fs ep u := ⟨k, G.ex, G.dat, G.el, G.mem, G.small, G.fit, G.many, G.good⟩
theorem SG.ne {h : Heap} {S : Int -> Bool} {n ep m j : Nat} {led : Bool} {o : Obj} {fs : Array (Int × Value)} {u : SetTable} {first : Value} (G : SG prog w h a S n led o fs ep u) (x : IsSI h it first j a m ep) : a ≠ it := fun z => by
 obtain ⟨oi, ho, hc, _⟩ := x
 have := G.at_
 rw [z, ho] at this
 cases this
 rw [G.ex.1] at hc
 exact absurd hc (by decide)
theorem StS.frame {h' : Heap} {tk : Nat} (x : StS prog w it a ws i s) (k : ∀ b o, s.heap.get? b = some o -> o.cls ≠ .type "list" -> h'.get? b = some o) : StS prog w it a ws i { s with heap := h', toks := tk } := by
 obtain ⟨S, n, led, o, fs, ep, u, first, G, ⟨oi, ho, hc, hd⟩, hl, md⟩ := x
 refine ⟨S, n, led, o, fs, ep, u, first, G.to (k _ _ G.at_ (by rw [G.ex.1]; decide)), ⟨oi, k _ _ ho (by rw [hc]; decide), hc, hd⟩, hl, ?_⟩
 rcases md with md | md | ⟨pt, ys, e, ⟨ot, hot, hct, nt, hdt⟩, r⟩
 ·exact .inl md
 ·exact .inr (.inl md)
 ·exact .inr (.inr ⟨pt, ys, e, ⟨ot, k _ _ hot (by rw [hct]; decide), hct, nt, hdt⟩, r⟩)
theorem StS.item {Q : Option Value -> Shared -> Prop} (x : StS prog w it a ws i s) (hi : i < ws.length) (hQ : ∀ h', StS prog w it a ws (i + 1) { s with heap := h' } -> Heap.SameBut it s.heap h' -> Q (some ws[i]) { s with heap := h' }) : wpAny (model prog w) A (pyNext (.ref it)) Q E s := by
 obtain ⟨S, n, led, o, fs, ep, u, first, G, hit, hl, md⟩ := x
 have hne := G.ne hit
 rcases md with ⟨ht, ⟨k, t, rfl⟩, hws⟩ | ⟨ht, hled, hp, hu, hsz, ⟨k, t, rfl, hb⟩, hws⟩ | ⟨pt, ys, rfl, htp, hys, hws⟩
 ·have hlen : i < (pickOrder (w.params.setOrder a ep) fs).toList.length := by rw [hws, length_map] at hi; exact hi
  refine next_int (x := ws[i]) (nx := k.toNat) hit G (fun A Q E q => setNext_text G ht _ _ ?_) fun h' y sb => hQ h' ⟨S, n, led, o, fs, ep, u, _, G.to ((sb.2 a hne).trans G.at_), y, hl, .inl ⟨ht, ⟨_, _, rfl⟩, hws⟩⟩ sb
  have e : (pickOrder (w.params.setOrder a ep) fs)[i]? = some ((pickOrder (w.params.setOrder a ep) fs).toList[i]'hlen) := by rw [<- Array.getElem?_toList]; exact getElem?_eq_getElem hlen
  rw [e]
  have : ws[i] = ((pickOrder (w.params.setOrder a ep) fs).toList[i]'hlen).2 := by simp [hws]
  rw [this] at q
  exact q
 ·have hlen : i < fs.size := by rw [hws, length_map, Array.length_toList] at hi; exact hi
  have hpl : i < u.place.size := by omega
  refine next_int (x := ws[i]) (nx := u.place[i] + 1) hit G (fun A Q E q => setNext_places G ht hled hp _ _ ?_) fun h' y sb => hQ h' ⟨S, n, led, o, fs, ep, u, _, G.to ((sb.2 a hne).trans G.at_), y, hl, .inr (.inl ⟨ht, hled, hp, hu, hsz, ⟨u.place[i] + 1, _, rfl, below_next hu hpl⟩, hws⟩)⟩ sb
  rw [Int.toNat_natCast, hb, Array.getElem?_eq_getElem hlen, Array.getElem?_eq_getElem hpl]
  have : ws[i] = fs[i].2 := by simp [hws]
  rw [this] at q
  exact q
 ·have hlen : i < ys.length := by rw [hws, length_map] at hi; exact hi
  have hy := hys ys[i] (getElem_mem hlen)
  have hpt : pt ≠ it := fun z => by
   obtain ⟨ot, hot, hct, _⟩ := htp
   obtain ⟨oi, ho, hc, _⟩ := hit
   rw [z, ho] at hot; cases hot
   rw [hct] at hc
   exact absurd hc (by decide)
  have hw : ws[i] = fs[ys[i]].2 := by simp [hws, hy]
  rw [hw] at hQ
  refine next_drawn (y := ys[i]) (t := 0) (e := fs[ys[i]]) hit G htp (by simp [hlen]) (Array.getElem?_eq_getElem hy) fun h' y sb => hQ h' ⟨S, n, led, o, fs, ep, u, _, G.to ((sb.2 a hne).trans G.at_), y, hl, .inr (.inr ⟨pt, ys, rfl, ?_, hys, hws⟩)⟩ sb
  obtain ⟨ot, hot, r⟩ := htp
  exact ⟨ot, (sb.2 pt hpt).trans hot, r⟩
theorem StS.done {Q : Option Value -> Shared -> Prop} (hh : A.handled = none) (x : StS prog w it a ws ws.length s) (hQ : ∀ h', Heap.ExtBut it s.heap h' -> Q none { s with heap := h' }) : wpAny (model prog w) A (pyNext (.ref it)) Q E s := by
 obtain ⟨S, n, led, o, fs, ep, u, first, G, hit, hl, md⟩ := x
 rcases md with ⟨ht, ⟨k, t, rfl⟩, hws⟩ | ⟨ht, hled, hp, hu, hsz, ⟨k, t, rfl, hb⟩, hws⟩ | ⟨pt, ys, rfl, htp, hys, hws⟩
 ·refine next_intE hh hit G (fun A Q E q => setNext_text G ht _ _ ?_) hQ
  rw [Array.getElem?_eq_none (by rw [hws, length_map, Array.length_toList]; exact Nat.le_refl _)]
  exact q
 ·refine next_intE hh hit G (fun A Q E q => setNext_places G ht hled hp _ _ ?_) hQ
  rw [Int.toNat_natCast, hb, Array.getElem?_eq_none (by rw [hws, length_map, Array.length_toList]; exact Nat.le_refl _)]
  exact q
 ·exact next_drawnE hh hit G htp (by simp [hws]) hQ
end
end
section
section
variable {prog : Program} {w : World} {A : Around} {E : Value -> Shared -> Prop} {s : Shared} {it a : Addr} {ws : List Value}
def lstO (acc : Array Value) (c : Nat) : Obj := { cls := .type "list", dict := none, data := .seq acc c, slots := #[] }
theorem extS {R : Result -> Shared -> Prop} (hh : A.handled = none) (hz : ws.length <= sizeLine) (L : Addr) (res : Value) :
  ∀ (r i : Nat) (s : Shared) (acc : Array Value) (c : Nat), ws.length - i = r -> i <= ws.length -> StS prog w it a ws i s -> s.heap.get? L = some (lstO acc c) -> acc.toList = ws.take i -> L ≠ it ->
   (∀ h' c', (∀ b o, b ≠ L -> b ≠ it -> s.heap.get? b = some o -> h'.get? b = some o) -> h'.get? L = some (lstO ws.toArray c') -> R (.ok (.ret res)) { s with heap := h' }) ->
   codeAny (model prog w) A (.builtin "list.extend.loop" ⟨[.ref L, .ref it, res], []⟩) R s := by
 intro r
 induction r with
 | zero =>
  intro i s acc c hr hi st hL hacc hne fin
  obtain rfl : i = ws.length := by omega
  refine codeAny_builtin PySem.F.entry_extend_loop ?_
  rw [Around.under_plainId PySem.F.plain_extend_loop _]
  show wpAny _ A.in1 (pyNext (.ref it) >>= _) _ _ s
  refine wpAny_bind (st.done (by simpa using hh) fun h' eb => ?_)
  rw [take_length] at hacc
  have e : acc = ws.toArray := by rw [<- hacc]
  subst e
  exact wpAny_pure (fin h' c (fun b o _ z q => eb b o z q) (eb L _ hne hL))
 | succ r ih =>
  intro i s acc c hr hi st hL hacc hne fin
  have lt : i < ws.length := by omega
  have hsz : acc.size = i := by rw [<- Array.length_toList, hacc, length_take]; omega
  refine codeAny_builtin PySem.F.entry_extend_loop ?_
  rw [Around.under_plainId PySem.F.plain_extend_loop _]
  show wpAny _ A.in1 (pyNext (.ref it) >>= _) _ _ s
  refine wpAny_bind (st.item lt fun h1 st1 sb => ?_)
  have hL1 : h1.get? L = some (lstO acc c) := (sb.2 L hne).trans hL
  show wpAny _ A.in1 (updateSeq L (·.push ws[i]) >>= _) _ _ _
  refine wpAny_bind ?_
  refine wpAny_updateSeq hL1 rfl (wpAny_pure ⟨plainId_quiet PySem.F.plain_extend_loop _, ih (i + 1) _ (acc.push ws[i]) _ (by omega) lt (st1.frame (tk := s.toks) fun b o e hc => ?_) (Heap.get?_update_self _ hL1 rfl) ?_ hne fun h2 c2 k2 g2 => ?_⟩) (by rw [hsz]; omega) (by show (acc.push ws[i]).size <= sizeLine + 1; rw [Array.size_push, hsz]; omega)
  ·refine (Heap.get?_update_other _ _ (fun z : L = b => ?_)).trans e
   subst z
   have e : h1.get? L = some o := e
   rw [hL1] at e; cases e
   exact hc rfl
  ·rw [Array.toList_push, hacc, take_append_getElem lt]
  ·refine fin h2 c2 (fun b o hb hb2 e => k2 b o hb hb2 ?_) g2
   exact (Heap.get?_update_other _ _ (Ne.symm hb)).trans ((sb.2 b hb2).trans e)
end
end
section
section
variable {prog : Program} {w : World} {A : Around} {E : Value -> Shared -> Prop} {s : Shared} {a : Addr}
theorem hint_set {Q : Bool -> Shared -> Prop} (hT : s.TypeIs (.ref a) "set") (h : Q false s) : wpAny (model prog w) A (Builtin.List.listLengthHint (.ref a)) Q E s := by
 unfold Builtin.List.listLengthHint
 refine wpAny_bind (wpAny_specialOf hT PySem.F.slot_set_len.lookup ?_)
 generalize hid : ("set.__len__" : String) = id0
 wp_delta
 rw [show splitId id0 = some ("set", "__len__") from by subst hid; decide +kernel]
 subst hid
 refine wpAny_bind (wpAny_isInstance (T := "set") (b := true) hT (by rw [isSubtype_type]; kernel_rfl) ?_)
 refine wpAny_ite_split (fun z => absurd z (by decide)) (fun _ => ?_)
 refine wpAny_ite_split (fun _ => ?_) (fun z => absurd (by decide +kernel) z)
 refine wpAny_bind (wpAny_typeOf hT ?_)
 exact wpAny_pure h
variable {S : Int -> Bool} {n ep : Nat} {led : Bool} {o : Obj} {fs : Array (Int × Value)} {u : SetTable}
theorem up_small {xs : Array Nat} (h : xs.size <= 1) : Up xs := by
 obtain ⟨l⟩ := xs
 match l with
 | [] => exact List.Pairwise.nil
 | [x] => exact pairwise_singleton ..
 | x :: y :: r => simp at h
theorem walk_perm {ys : List Nat} (h : ys.Perm (List.range fs.size)) : (ys.map fun y => (fs.getD y default).2).Perm (fs.toList.map (·.2)) := by
 refine (h.map _).trans ?_
 have : (List.range fs.size).map (fun y => (fs.getD y default).2) = fs.toList.map (·.2) := by
  apply ext_getElem
  ·simp
  ·intro i h1 h2
   have : i < fs.size := by simpa using h1
   simp [this]
 rw [this]
theorem collect_rest {s2 : Shared} {it L : Addr} {ws : List Value} {R : Result -> Shared -> Prop} (hh : A.handled = none) (hz : ws.length <= sizeLine) (hT : s2.TypeIs (.ref a) "set") (st : StS prog w it a ws 0 s2) (hL : s2.heap.get? L = some (lstO #[] 0)) (hne : L ≠ it)
  {P : PySem.Fin -> Shared -> Prop} {E' : Value -> Shared -> Prop} (hP : ∀ c' s', (c'.quiet = true /\ codeAny (model prog w) A c' R s') -> P (.again c') s')
  (fin : ∀ h' c', (∀ b o, b ≠ L -> b ≠ it -> s2.heap.get? b = some o -> h'.get? b = some o) -> h'.get? L = some (lstO ws.toArray c') -> R (.ok (.ret (.ref L))) { s2 with heap := h' }) :
  wpAny (model prog w) A.in1 (do
   let room ← holding [.ref it] (Builtin.List.listLengthHint (.ref a))
   if (room || ["set", "frozenset", "dict", "dict_keys", "dict_values", "dict_items"].any (Value.type "set" == .type ·)) = true then do
    rule "list.extend.makes-room"
    Builtin.List.listTouch (.ref L)
    again (.builtin "list.extend.loop" ⟨[.ref L, .ref it, .ref L], []⟩)
   else again (.builtin "list.extend.loop" ⟨[.ref L, .ref it, .ref L], []⟩)) P E' s2 := by
 refine wpAny_bind (wpAny_holding (hint_set hT ?_))
 rw [if_pos (by decide)]
 refine wpAny_bind (wpAny_rule ?_)
 refine wpAny_bind ?_
 show wpAny _ A.in1 (updateSeq L (·.push .none) >>= fun _ => updateSeq L (·.pop)) _ _ _
 refine wpAny_bind (wpAny_updateSeq hL rfl ?_)
 have g2 := Heap.get?_update_self (Obj.mapSeq (·.push Value.none)) hL rfl
 refine wpAny_updateSeq g2 rfl ?_
 have g3 := Heap.get?_update_self (Obj.mapSeq (·.pop)) g2 rfl
 have oth : ∀ b o, b ≠ L -> s2.heap.get? b = some o -> ((s2.heap.update L (Obj.mapSeq (·.push Value.none))).update L (Obj.mapSeq (·.pop))).get? b = some o := fun b o hb e => (Heap.get?_update_other _ _ (Ne.symm hb)).trans ((Heap.get?_update_other _ _ (Ne.symm hb)).trans e)
 refine wpAny_pure (hP _ _ ⟨plainId_quiet PySem.F.plain_extend_loop _, extS hh hz L _ ws.length 0 _ _ _ rfl (Nat.zero_le _) (st.frame (tk := s2.toks) fun b o e hc => oth b o (fun z => ?_) e) g3 rfl hne fun h' c' k g => fin h' c' (fun b o hb hb2 e => k b o hb hb2 (oth b o hb e)) g⟩)
 subst z
 rw [hL] at e; cases e
 exact hc rfl
end
end
section
section
variable {prog : Program} {w : World} {A : Around} {E : Value -> Shared -> Prop} {s : Shared} {a : Addr}
variable {S : Int -> Bool} {n ep : Nat} {led : Bool} {o : Obj} {fs : Array (Int × Value)} {u : SetTable}
theorem collectSet (hh : A.handled = none) (G : SG prog w s.heap a S n led o fs ep u) (hled : led = ledOf w) {Q : List Value -> Shared -> Prop}
  (fin : ∀ ws h' d, ws.Perm (fs.toList.map (·.2)) -> (∀ b o, b < s.heap.objs.size -> s.heap.get? b = some o -> h'.get? b = some o) -> s.heap.objs.size < h'.objs.size -> Q ws { s with heap := h', drawn := d }) :
  wpAny (model prog w) A (collect (.ref a)) Q E s := by
 have hlt : a < s.heap.objs.size := Heap.lt_size G.at_
 have hfz : fs.size <= sizeLine := fits_of_scanBound G.small
 unfold collect
 refine wpAny_bind (wpAny_runValue (codeAny_builtin PySem.F.entry_proto_collect ?_))
 rw [Around.under_plainId PySem.F.plain_proto_collect _]
 show wpAny _ A.in1 (newList [] >>= fun l => again (.builtin "list.__iadd__" ⟨[l, .ref a], []⟩)) _ _ s
 refine wpAny_bind (wpAny_newObj_type ?_)
 refine wpAny_pure ⟨plainId_quiet PySem.F.plain_list_iadd _, codeAny_builtin PySem.F.entry_list_iadd ?_⟩
 rw [Around.under_plainId PySem.F.plain_list_iadd _]
 have G1 : SG prog w (s.heap.push (lstO #[] 0)) a S n led o fs ep u := G.to (Heap.get?_push_of_some _ G.at_)
 have hL : (s.heap.push (lstO #[] 0)).get? s.heap.objs.size = some (lstO #[] 0) := Heap.get?_push_size _ rfl
 have hsz : (s.heap.push (lstO #[] 0)).objs.size = s.heap.objs.size + 1 := by rw [Heap.size_push]
 show wpAny _ A.in1 (Builtin.List.listExtendWith (.ref s.heap.objs.size) (.ref a) (.ref s.heap.objs.size)) _ _ { s with heap := s.heap.push (lstO #[] 0) }
 unfold Builtin.List.listExtendWith
 have hT1 : Shared.TypeIs { s with heap := s.heap.push (lstO #[] 0) } (.ref a) "set" := ⟨o, G1.at_, G.ex.1⟩
 refine wpAny_bind (wpAny_typeOf hT1 ?_)
 have h1 : Builtin.List.listSameRef (.ref s.heap.objs.size) (.ref a) = false := by simp [Builtin.List.listSameRef, Nat.ne_of_gt hlt]
 rw [if_neg (by rw [h1]; decide)]
 refine wpAny_bind (iter_set G1 (fun hc => ?_) fun ys d hp => ?_)
 ·obtain ⟨ws, hp, md⟩ : ∃ ws : List Value, ws.Perm (fs.toList.map (·.2)) /\ MD w ((s.heap.push (lstO #[] 0)).push { cls := .type "set_iterator", data := .fields #[.int 0 0, .int 0 0, .ref a, .int n 0, .int ep 0] }) a ws 0 n ep led fs u (.int 0 0) := by
   cases ht : w.params.followText "set-order" with
   | true => exact ⟨_, (pick_perm _ _).map _, .inl ⟨ht, ⟨_, _, rfl⟩, rfl⟩⟩
   | false =>
    have hp : (!u.plain && decide (fs.size > 1)) = false := by
     rcases hc with hc | hc
     ·rw [ht] at hc; cases hc
     ·exact hc
    have hps : u.place.size = fs.size := by
     have := G.fit
     simp only [SetTable.fits, Bool.and_eq_true, beq_iff_eq] at this
     exact this.1
    have hu : Up u.place := by
     cases hpl : u.plain with
     | true => exact G.good.2 hpl
     | false =>
      rw [hpl] at hp
      simp only [Bool.not_false, Bool.true_and, decide_eq_false_iff_not] at hp
      exact up_small (by omega)
    exact ⟨_, .refl _, .inr (.inl ⟨ht, by rw [hled]; unfold ledOf; rw [ht]; rfl, hp, hu, hps, ⟨0, 0, rfl, below_zero hu⟩, rfl⟩)⟩
  have hwl : ws.length = n := by rw [hp.length_eq, length_map, Array.length_toList, G.many]
  have hne : s.heap.objs.size ≠ (s.heap.push (lstO #[] 0)).objs.size := by rw [hsz]; exact Nat.ne_of_lt (Nat.lt_succ_self _)
  have gs : ((s.heap.push (lstO #[] 0)).push { cls := .type "set_iterator", data := .fields #[.int 0 0, .int 0 0, .ref a, .int n 0, .int ep 0] }).get? (s.heap.push (lstO #[] 0)).objs.size = some { cls := .type "set_iterator", data := .fields #[.int 0 0, .int 0 0, .ref a, .int n 0, .int ep 0] } := Heap.get?_push_size _ rfl
  have ga := Heap.get?_push_of_some { cls := .type "set_iterator", data := .fields #[.int 0 0, .int 0 0, .ref a, .int n 0, .int ep 0] } G1.at_
  have gl := Heap.get?_push_of_some { cls := .type "set_iterator", data := .fields #[.int 0 0, .int 0 0, .ref a, .int n 0, .int ep 0] } hL
  refine collect_rest (s2 := { s with heap := (s.heap.push (lstO #[] 0)).push { cls := .type "set_iterator", data := .fields #[.int 0 0, .int 0 0, .ref a, .int n 0, .int ep 0] } }) (a := a) (it := (s.heap.push (lstO #[] 0)).objs.size) (L := s.heap.objs.size) (ws := ws) hh (by rw [hwl, <- G.many]; exact hfz) ⟨o, ga, G.ex.1⟩ ⟨S, n, led, o, fs, ep, u, .int 0 0, G1.to ga, ⟨_, gs, rfl, rfl⟩, hwl, md⟩ gl hne (fun c' s' h => h) fun h' c' k g => ?_
  show wpAny _ A (load s.heap.objs.size >>= _) _ _ _
  refine wpAny_bind (wpAny_load g ?_)
  refine wpAny_pure (fin ws h' s.drawn hp (fun b o hb e => k b o (Nat.ne_of_lt hb) (by rw [hsz]; exact Nat.ne_of_lt (Nat.lt_succ_of_lt hb)) (Heap.get?_push_of_some _ (Heap.get?_push_of_some _ e))) (Heap.lt_size g))
 ·have hpf : ys.Perm (List.range fs.size) := by rw [G.many]; exact hp
  have hwp := walk_perm (fs := fs) hpf
  have hwl : (ys.map fun y => (fs.getD y default).2).length = n := by rw [hwp.length_eq, length_map, Array.length_toList, G.many]
  have hne : s.heap.objs.size ≠ (s.heap.push (lstO #[] 0)).objs.size + 1 := by rw [hsz]; exact Nat.ne_of_lt (Nat.lt_succ_of_lt (Nat.lt_succ_self _))
  have hat : ((s.heap.push (lstO #[] 0)).push (seqObj "tuple" (ys.map fun (i : Nat) => Value.int i 0).toArray 0)).objs.size = (s.heap.push (lstO #[] 0)).objs.size + 1 := by rw [Heap.size_push]
  generalize htp : seqObj "tuple" (ys.map fun (i : Nat) => Value.int i 0).toArray 0 = tp at *
  generalize hio : ({ cls := .type "set_iterator", data := .fields #[.ref (s.heap.push (lstO #[] 0)).objs.size, .int 0 0, .ref a, .int n 0, .int ep 0] } : Obj) = io
  have hic : io.cls = .type "set_iterator" := by rw [<- hio]
  have hid : io.data = .fields #[.ref (s.heap.push (lstO #[] 0)).objs.size, .int 0 0, .ref a, .int n 0, .int ep 0] := by rw [<- hio]
  have htt : tp.cls = .type "tuple" /\ tp.data = .seq (ys.map fun (i : Nat) => Value.int i 0).toArray 0 := by rw [<- htp]; exact ⟨rfl, rfl⟩
  have gt : ((s.heap.push (lstO #[] 0)).push tp).get? (s.heap.push (lstO #[] 0)).objs.size = some tp := Heap.get?_push_size _ (by rw [<- htp]; rfl)
  have gs : (((s.heap.push (lstO #[] 0)).push tp).push io).get? ((s.heap.push (lstO #[] 0)).objs.size + 1) = some io := by
   rw [<- hat]; exact Heap.get?_push_size _ (by rw [<- hio]; rfl)
  have ga : (((s.heap.push (lstO #[] 0)).push tp).push io).get? a = some o := Heap.get?_push_of_some _ (Heap.get?_push_of_some _ G1.at_)
  have gl : (((s.heap.push (lstO #[] 0)).push tp).push io).get? s.heap.objs.size = some (lstO #[] 0) := Heap.get?_push_of_some _ (Heap.get?_push_of_some _ hL)
  have st : StS prog w ((s.heap.push (lstO #[] 0)).objs.size + 1) a (ys.map fun y => (fs.getD y default).2) 0 { s with heap := ((s.heap.push (lstO #[] 0)).push tp).push io, drawn := d } :=
   ⟨S, n, led, o, fs, ep, u, .ref (s.heap.push (lstO #[] 0)).objs.size, G1.to ga, ⟨io, gs, hic, hid⟩, hwl, .inr (.inr ⟨_, ys, rfl, ⟨tp, Heap.get?_push_of_some _ gt, htt.1, 0, htt.2⟩, fun y hy => List.mem_range.mp (hpf.mem_iff.mp hy), rfl⟩)⟩
  refine collect_rest (s2 := { s with heap := ((s.heap.push (lstO #[] 0)).push tp).push io, drawn := d }) (a := a) (it := (s.heap.push (lstO #[] 0)).objs.size + 1) (L := s.heap.objs.size) hh (by rw [hwl, <- G.many]; exact hfz) ⟨o, ga, G.ex.1⟩ st gl hne (fun c' s' h => h) fun h' c' k g => ?_
  show wpAny _ A (load s.heap.objs.size >>= _) _ _ _
  refine wpAny_bind (wpAny_load g ?_)
  refine wpAny_pure (fin _ h' d hwp (fun b o hb e => k b o (Nat.ne_of_lt hb) (by rw [hsz]; exact Nat.ne_of_lt (Nat.lt_succ_of_lt (Nat.lt_succ_of_lt hb))) (Heap.get?_push_of_some _ (Heap.get?_push_of_some _ (Heap.get?_push_of_some _ e)))) (Heap.lt_size g))
end
end
section
theorem perm_of_sub : ∀ {l m : List Int}, l.Nodup -> (∀ x ∈ l, x ∈ m) -> l.length = m.length -> l.Perm m
 | [], m, _, _, h => by rw [List.length_eq_zero_iff.mp h.symm]
 | x :: l, m, hd, hs, hl => by
  have hx := hs x (by simp)
  have hn := List.nodup_cons.mp hd
  refine (List.Perm.cons x (perm_of_sub hn.2 (fun y hy => ?_) ?_)).trans (perm_cons_erase hx).symm
  ·exact (mem_erase_of_ne (fun z : y = x => hn.1 (by rw [<- z]; exact hy))).mpr (hs y (by simp [hy]))
  ·rw [length_erase_of_mem hx]
   simp only [length_cons] at hl
   omega
theorem firstMet_nodup (val : Nat -> Int) : ∀ i, (firstMet val i).Nodup
 | 0 => by rw [firstMet_zero]; exact nodup_nil
 | i + 1 => by
  rw [firstMet_succ]
  unfold step_dedup
  split
  ·exact firstMet_nodup val i
  ·rename_i h
   refine List.nodup_append.mpr ⟨firstMet_nodup val i, by simp, fun a ha b hb => ?_⟩
   rw [mem_singleton] at hb
   intro z
   subst hb
   exact h (List.any_eq_true.mpr ⟨a, ha, by simp [z]⟩)
section
variable {prog : Program} {w : World} {A : Around} {E : Value -> Shared -> Prop} {s : Shared} {a : Addr}
variable {S : Int -> Bool} {n ep : Nat} {led : Bool} {o : Obj} {fs : Array (Int × Value)} {u : SetTable}
theorem ints_of : ∀ {l : List (Int × Value)}, ElemsOf (KI prog w) l -> ∃ ks : List Int, IntsAre (l.map (·.2)) ks /\ ∀ k, k ∈ ks ↔ ∃ e ∈ l, (KI prog w).is k e.2 = true
 | [], _ => ⟨[], .nil, fun k => by simp⟩
 | e :: l, h => by
  obtain ⟨ks, h1, h2⟩ := ints_of h.tail
  obtain ⟨⟨k, hk, _⟩, _⟩ := h.head
  obtain ⟨t, ht⟩ := Value.isInt_shape hk
  refine ⟨k :: ks, ?_, fun j => ?_⟩
  ·rw [map_cons, ht]; exact .cons k t h1
  ·rw [mem_cons, h2]
   constructor
   ·rintro (rfl | ⟨f, hf, q⟩)
    ·exact ⟨e, by simp, hk⟩
    ·exact ⟨f, by simp [hf], q⟩
   ·rintro ⟨f, hf, q⟩
    rcases List.mem_cons.mp hf with rfl | hf
    ·exact .inl ((KI prog w).inj _ _ _ q hk)
    ·exact .inr ⟨f, hf, q⟩
theorem ints_perm : ∀ {vs ws : List Value}, ws.Perm vs -> ∀ {ns : List Int}, IntsAre vs ns -> ∃ ms, IntsAre ws ms /\ ms.Perm ns := by
 intro vs ws p
 induction p with
 | nil => exact fun h => ⟨_, h, .refl _⟩
 | cons x _ ih =>
  intro ns h
  cases h with
  | cons n t h => obtain ⟨ms, a, b⟩ := ih h; exact ⟨n :: ms, .cons n t a, b.cons n⟩
 | swap x y l =>
  intro ns h
  cases h with
  | cons n t h =>
   cases h with
   | cons m t2 h => exact ⟨_, .cons _ _ (.cons _ _ h), .swap _ _ _⟩
 | trans _ _ ih1 ih2 =>
  intro ns h
  obtain ⟨ms, a, b⟩ := ih2 h
  obtain ⟨ks, c, d⟩ := ih1 a
  exact ⟨ks, c, d.trans b⟩
end
end
section
def ddI (ns : List Int) : List Int := firstMet (fun i => ns.getD i 0) ns.length
def SetH (P : Program) (w : World) (a : Addr) (ns : List Int) : HO := .ext fun h => SetG P w h a (inL (fun i => ns.getD i 0) ns.length) (ddI ns).length (ledOf w)
section
variable {X : Cx} {e : Expr} {pos : Pos}
end
end
section
namespace TS
abbrev SM := StateT SortSt Sem
def ky (κ : PyProof.Rows.KeyKind) (x : Keyed) : κ.α := (κ.keyOf x.1).getD κ.dflt
def CL (M : Model) (A : Around) (E : Value -> Shared -> Prop) (s : Shared) (a₀ : Array Keyed) (κ : PyProof.Rows.KeyKind) (kd : SortKind) : Prop :=
 ∀ x y : Keyed, x ∈ a₀.toList -> y ∈ a₀.toList -> ∀ (st : SortSt) (Q : Option Bool -> SortSt -> Prop), kindOf st = kd -> Q (some (κ.blt (ky κ x) (ky κ y))) st -> wpS M A E s (lt' x y) Q st
section
variable {M : Model} {A : Around} {E : Value -> Shared -> Prop} {s : Shared} {a₀ : Array Keyed} {κ : PyProof.Rows.KeyKind} {kd : SortKind} {st : SortSt}
theorem KK_ky {xs : Array Keyed} {i : Nat} {x : Keyed} (h : xs[i]? = some x) : KK κ xs i = ky κ x := by
 unfold KK ky; rw [h]
theorem wp_elem {arr : Array Keyed} {i : Nat} (h : i < arr.size) {Q : Keyed -> SortSt -> Prop} (q : Q arr[i] st) : wpS M A E s (elem' arr i) Q st := by
 rw [elem'_eq, Array.getElem?_eq_getElem h]
 exact wpS_pure q
theorem wp_ltA (c : CL M A E s a₀ κ kd) (hp : ∀ x, x ∈ (arrOf st).toList -> x ∈ a₀.toList) (hk : kindOf st = kd) {i j : Nat} (hi : i < (arrOf st).size) (hj : j < (arrOf st).size) {Q : Option Bool -> SortSt -> Prop} (q : Q (some (κ.blt (KK κ (arrOf st) i) (KK κ (arrOf st) j))) st) : wpS M A E s (ltAt' i j) Q st := by
 rw [ltAt'_eq]
 refine wpS_bind (wpS_get ?_)
 refine wpS_bind (wp_elem hi ?_)
 refine wpS_bind (wp_elem hj ?_)
 refine c _ _ (hp _ (by simp)) (hp _ (by simp)) _ _ hk ?_
 rw [<- KK_ky (Array.getElem?_eq_getElem hi), <- KK_ky (Array.getElem?_eq_getElem hj)]
 exact q
theorem wp_range {σ β : Type} {st : σ} (a n : Nat) (b : β) (f : Nat -> β -> StateT σ Sem (ForInStep β)) (I : Nat -> β -> σ -> Prop) (Q : β -> σ -> Prop)
  (h0 : I (n - a) b st)
  (hs : ∀ (x r : Nat) (b : β) (st : σ), a <= x -> x < n -> x + r + 1 = n -> I (r + 1) b st -> wpS M A E s (f x b) (fun q st' => match q with | .done b' => Q b' st' | .yield b' => I r b' st') st)
  (he : ∀ b st, I 0 b st -> Q b st) : wpS M A E s (forIn [a:n] b f) Q st := by
 rw [Std.Legacy.Range.forIn_eq_forIn_range']
 have hz : ([a:n] : Std.Legacy.Range).size = n - a := by simp [Std.Legacy.Range.size]
 rw [hz]
 refine wpS_forIn_list _ (fun l b st => ∃ x r, l = List.range' x r /\ a <= x /\ (r = 0 \/ x + r = n) /\ I r b st) _ ?_ ?_ _ _ _ ⟨a, n - a, rfl, Nat.le_refl _, by omega, h0⟩
 ·rintro x rest b st ⟨x', r, hl, ha, hr, hI⟩
  cases r with
  | zero => cases hl
  | succ r =>
   rw [List.range'_succ] at hl
   injection hl with e1 e2
   subst e1 e2
   refine wpS_mono (hs x r b st ha (by omega) (by omega) hI) fun q st' h => ?_
   cases q with
   | done b' => exact h
   | yield b' => exact ⟨x + 1, r, rfl, by omega, by omega, h⟩
 ·rintro b st ⟨x, r, hl, _, _, hI⟩
  cases r with
  | zero => exact he b st hI
  | succ r => rw [List.range'_succ] at hl; cases hl
structure SB (a₀ : Array Keyed) (kd : SortKind) (st : SortSt) : Prop where
 perm : (arrOf st).Perm a₀
 kind : kindOf st = kd
 failed : failedOf st = none
theorem SB.size (h : SB a₀ kd st) : (arrOf st).size = a₀.size := h.perm.size_eq
theorem SB.mem (h : SB a₀ kd st) : ∀ x, x ∈ (arrOf st).toList -> x ∈ a₀.toList := fun x hx => (Array.perm_iff_toList_perm.mp h.perm).mem_iff.mp hx
theorem SB.set (h : SB a₀ kd st) {xs : Array Keyed} (p : xs.Perm (arrOf st)) : SB a₀ kd (setArr st xs) := ⟨p.trans h.perm, h.kind, h.failed⟩
theorem SB.lt (h : SB a₀ kd st) (c : CL M A E s a₀ κ kd) {i j : Nat} (hi : i < a₀.size) (hj : j < a₀.size) {Q : Option Bool -> SortSt -> Prop} (q : Q (some (κ.blt (KK κ (arrOf st) i) (KK κ (arrOf st) j))) st) : wpS M A E s (ltAt' i j) Q st :=
 wp_ltA c h.mem h.kind (h.size ▸ hi) (h.size ▸ hj) q
def Spl (B : Nat -> Bool) (n k : Nat) : Prop := k <= n /\ (∀ i, i < k -> B i = true) /\ ∀ i, k <= i -> i < n -> B i = false
def bisM (bey : Nat -> SM (Option Bool)) (n lo hi : Nat) : SM (Option Nat) := do
 let s ← forIn [:n] ((none, lo, hi) : Option (Option Nat) × Nat × Nat) fun _ s =>
  if s.2.1 ≥ s.2.2 then pure (.done (none, s.2.1, s.2.2))
  else do
   let r ← bey (s.2.1 + (s.2.2 - s.2.1) / 2)
   match r with
   | some more => if more = true then pure (.yield (none, s.2.1 + (s.2.2 - s.2.1) / 2 + 1, s.2.2)) else pure (.yield (none, s.2.1, s.2.1 + (s.2.2 - s.2.1) / 2))
   | _ => pure (.done (some none, s.2.1, s.2.2))
 match s.1 with
 | some r => pure r
 | none => pure (some s.2.2)
def galM (bey : Nat -> SM (Option Bool)) (n hint : Nat) : SM (Option Nat) := do
 let r ← bey hint
 match r with
 | some right =>
  if right = true then do
   let s ← forIn [:n] ((none, 0, 1) : Option (Option Nat) × Nat × Nat) fun _ s =>
    if s.2.2 ≥ n - hint then pure (.done (none, s.2.1, s.2.2))
    else do
     let r ← bey (hint + s.2.2)
     match r with
     | some more => if (!more) = true then pure (.done (none, s.2.1, s.2.2)) else pure (.yield (none, s.2.2, 2 * s.2.2 + 1))
     | _ => pure (.done (some none, s.2.1, s.2.2))
   match s.1 with
   | some r => pure r
   | none => bisM bey n (hint + s.2.1 + 1) (hint + min s.2.2 (n - hint))
  else do
   let s ← forIn [:n] ((none, 0, 1) : Option (Option Nat) × Nat × Nat) fun _ s =>
    if s.2.2 ≥ hint + 1 then pure (.done (none, s.2.1, s.2.2))
    else do
     let r ← bey (hint - s.2.2)
     match r with
     | some found => if found = true then pure (.done (none, s.2.1, s.2.2)) else pure (.yield (none, s.2.2, 2 * s.2.2 + 1))
     | _ => pure (.done (some none, s.2.1, s.2.2))
   match s.1 with
   | some r => pure r
   | none => bisM bey n (hint + 1 - min s.2.2 (hint + 1)) (hint - s.2.1)
 | _ => pure none
variable {B : Nat -> Bool} {n : Nat} {bey : Nat -> SM (Option Bool)}
theorem wp_bis (hB : ∀ i, i < n -> ∀ Q : Option Bool -> SortSt -> Prop, Q (some (B i)) st -> wpS M A E s (bey i) Q st) (mono : ∀ i j, i <= j -> j < n -> B j = true -> B i = true) {lo hi : Nat} (h1 : lo <= hi) (h2 : hi <= n) (hl : ∀ i, i < lo -> B i = true) (hh : ∀ i, hi <= i -> i < n -> B i = false) {Q : Option Nat -> SortSt -> Prop} (q : ∀ k, Spl B n k -> Q (some k) st) : wpS M A E s (bisM bey n lo hi) Q st := by
 unfold bisM
 refine wpS_bind (wp_range 0 n _ _ (fun r b st' => st' = st /\ b.1 = none /\ b.2.1 <= b.2.2 /\ b.2.2 <= n /\ b.2.2 - b.2.1 <= r /\ (∀ i, i < b.2.1 -> B i = true) /\ ∀ i, b.2.2 <= i -> i < n -> B i = false) _ ⟨rfl, rfl, h1, h2, by dsimp only; omega, hl, hh⟩ ?_ ?_)
 ·rintro x r ⟨b0, lo, hi⟩ st' _ _ _ ⟨rfl, hb, h1, h2, h3, hl, hh⟩
  simp only at hb h1 h2 h3 hl hh ⊢
  subst hb
  split
  ·exact wpS_pure (wpS_pure (q hi ⟨h2, fun i hi => hl i (by omega), hh⟩))
  ·rename_i hlt
   have hm : lo + (hi - lo) / 2 < hi := by omega
   refine wpS_bind (hB _ (by omega) _ ?_)
   simp only
   cases hv : B (lo + (hi - lo) / 2) with
   | true => exact wpS_pure ⟨rfl, rfl, by dsimp only; omega, h2, by dsimp only; omega, fun i hi => mono i _ (by dsimp only at hi; omega) (by omega) hv, hh⟩
   | false => exact wpS_pure ⟨rfl, rfl, by dsimp only; omega, by dsimp only; omega, by dsimp only; omega, hl, fun i hi hn => by
     cases h : B i with
     | false => rfl
     | true => rw [mono _ i hi hn h] at hv; cases hv⟩
 ·rintro ⟨b0, lo, hi⟩ st' ⟨rfl, hb, h1, h2, h3, hl, hh⟩
  simp only at hb h1 h2 h3 hl hh ⊢
  subst hb
  exact wpS_pure (q hi ⟨h2, fun i hi => hl i (by omega), hh⟩)
theorem wp_gal (hB : ∀ i, i < n -> ∀ Q : Option Bool -> SortSt -> Prop, Q (some (B i)) st -> wpS M A E s (bey i) Q st) (mono : ∀ i j, i <= j -> j < n -> B j = true -> B i = true) {hint : Nat} (hn : hint < n) {Q : Option Nat -> SortSt -> Prop} (q : ∀ k, Spl B n k -> Q (some k) st) : wpS M A E s (galM bey n hint) Q st := by
 unfold galM
 have fls : ∀ i j, i <= j -> j < n -> B i = false -> B j = false := fun i j hij hj h => by
  cases h' : B j with
  | false => rfl
  | true => rw [mono i j hij hj h'] at h; cases h
 refine wpS_bind (hB _ hn _ ?_)
 cases hv : B hint with
 | true =>
  simp only [if_true]
  have fin : ∀ lastofs ofs, lastofs < ofs -> B (hint + lastofs) = true -> hint + lastofs < n -> (ofs ≥ n - hint \/ B (hint + ofs) = false) -> wpS M A E s (bisM bey n (hint + lastofs + 1) (hint + min ofs (n - hint))) Q st := fun lo of h1 h2 h3 h4 =>
   wp_bis hB mono (by omega) (by omega) (fun i hi => mono i _ (by omega) h3 h2) (fun i hi hn => by
    rcases h4 with h4 | h4
    ·omega
    ·exact fls (hint + of) i (by omega) hn h4) q
  refine wpS_bind (wp_range 0 n _ _ (fun r b st' => st' = st /\ b.1 = none /\ b.2.1 < b.2.2 /\ B (hint + b.2.1) = true /\ hint + b.2.1 < n /\ n < b.2.2 + r + 1) _ ⟨rfl, rfl, by simp, by simpa using hv, by simpa using hn, by dsimp only; omega⟩ ?_ ?_)
  ·rintro x r ⟨b0, lo, of⟩ st' _ _ _ ⟨rfl, hb, h1, h2, h3, h4⟩
   simp only at hb h1 h2 h3 h4 ⊢
   subst hb
   split
   ·rename_i hge
    exact wpS_pure (fin lo of h1 h2 h3 (.inl hge))
   ·rename_i hge
    refine wpS_bind (hB _ (by omega) _ ?_)
    simp only
    cases hw : B (hint + of) with
    | false => exact wpS_pure (fin lo of h1 h2 h3 (.inr hw))
    | true => exact wpS_pure ⟨rfl, rfl, by dsimp only; omega, hw, by dsimp only; omega, by dsimp only; omega⟩
  ·rintro ⟨b0, lo, of⟩ st' ⟨rfl, hb, h1, h2, h3, h4⟩
   simp only at hb h1 h2 h3 h4 ⊢
   subst hb
   exact fin lo of h1 h2 h3 (.inl (by omega))
 | false =>
  simp only [Bool.false_eq_true, if_false]
  have fin : ∀ lastofs ofs, lastofs < ofs -> lastofs <= hint -> B (hint - lastofs) = false -> (ofs ≥ hint + 1 \/ B (hint - ofs) = true) -> wpS M A E s (bisM bey n (hint + 1 - min ofs (hint + 1)) (hint - lastofs)) Q st := fun lo of h1 h2 h3 h4 =>
   wp_bis hB mono (by omega) (by omega) (fun i hi => by
    rcases h4 with h4 | h4
    ·omega
    ·exact mono i (hint - of) (by omega) (by omega) h4) (fun i hi hn => fls _ i hi hn h3) q
  refine wpS_bind (wp_range 0 n _ _ (fun r b st' => st' = st /\ b.1 = none /\ b.2.1 < b.2.2 /\ b.2.1 <= hint /\ B (hint - b.2.1) = false /\ n < b.2.2 + r + 1) _ ⟨rfl, rfl, by simp, by simp, by simpa using hv, by dsimp only; omega⟩ ?_ ?_)
  ·rintro x r ⟨b0, lo, of⟩ st' _ _ _ ⟨rfl, hb, h1, h2, h3, h4⟩
   simp only at hb h1 h2 h3 h4 ⊢
   subst hb
   split
   ·rename_i hge
    exact wpS_pure (fin lo of h1 h2 h3 (.inl hge))
   ·rename_i hge
    refine wpS_bind (hB _ (by omega) _ ?_)
    simp only
    cases hw : B (hint - of) with
    | true => exact wpS_pure (fin lo of h1 h2 h3 (.inr hw))
    | false => exact wpS_pure ⟨rfl, rfl, by dsimp only; omega, by dsimp only; omega, hw, by dsimp only; omega⟩
  ·rintro ⟨b0, lo, of⟩ st' ⟨rfl, hb, h1, h2, h3, h4⟩
   simp only at hb h1 h2 h3 h4 ⊢
   subst hb
   exact fin lo of h1 h2 h3 (.inl (by omega))
end
end TS
end
section
namespace TS
section
variable {prog : Program} {w : World} {A : Around} {E : Value -> Shared -> Prop} {s : Shared} {a₀ : Array Keyed} {κ : PyProof.Rows.KeyKind} {kd : SortKind} {st : SortSt}
def Seg (κ : PyProof.Rows.KeyKind) (xs : Array Keyed) (lo hi : Nat) : Prop := ∀ i j, lo <= i -> i <= j -> j < hi -> κ.kle (KK κ xs i) (KK κ xs j)
def NInc (κ : PyProof.Rows.KeyKind) (xs : Array Keyed) (lo hi : Nat) : Prop := ∀ i j, lo <= i -> i <= j -> j < hi -> κ.kle (KK κ xs j) (KK κ xs i)
structure Ch (a₀ : Array Keyed) (κ : PyProof.Rows.KeyKind) (kd : SortKind) (lo : Nat) (st st' : SortSt) : Prop where
 sb : SB a₀ kd st'
 pend : pendingOf st' = pendingOf st
 pre : ∀ k, k < lo -> KK κ (arrOf st') k = KK κ (arrOf st) k
theorem Ch.refl {lo : Nat} (h : SB a₀ kd st) : Ch a₀ κ kd lo st st := ⟨h, rfl, fun _ _ => rfl⟩
theorem Ch.trans {lo : Nat} {st' st'' : SortSt} (h : Ch a₀ κ kd lo st st') (g : Ch a₀ κ kd lo st' st'') : Ch a₀ κ kd lo st st'' := ⟨g.sb, g.pend.trans h.pend, fun k hk => (g.pre k hk).trans (h.pre k hk)⟩
theorem Seg.congr {xs ys : Array Keyed} {lo hi : Nat} (h : Seg κ xs lo hi) (e : ∀ k, lo <= k -> k < hi -> KK κ ys k = KK κ xs k) : Seg κ ys lo hi := fun i j h1 h2 h3 => by rw [e i h1 (by omega), e j (by omega) h3]; exact h i j h1 h2 h3
theorem Seg.snoc {xs : Array Keyed} {lo hi : Nat} (h : Seg κ xs lo hi) (hl : lo < hi) (e : κ.kle (KK κ xs (hi - 1)) (KK κ xs hi)) : Seg κ xs lo (hi + 1) := fun i j h1 h2 h3 => by
 rcases Nat.lt_or_ge j hi with hj | hj
 ·exact h i j h1 h2 hj
 ·have : j = hi := by omega
  subst this
  rcases Nat.lt_or_ge i j with hi | hi
  ·exact KeyOrd.kle_trans (h i (j - 1) h1 (by omega) (by omega)) e
  ·have : i = j := by omega
   subst this; exact KeyOrd.kle_refl _
theorem NInc.snoc {xs : Array Keyed} {lo hi : Nat} (h : NInc κ xs lo hi) (hl : lo < hi) (e : κ.kle (KK κ xs hi) (KK κ xs (hi - 1))) : NInc κ xs lo (hi + 1) := fun i j h1 h2 h3 => by
 rcases Nat.lt_or_ge j hi with hj | hj
 ·exact h i j h1 h2 hj
 ·have : j = hi := by omega
  subst this
  rcases Nat.lt_or_ge i j with hi | hi
  ·exact KeyOrd.kle_trans e (h i (j - 1) h1 (by omega) (by omega))
  ·have : i = j := by omega
   subst this; exact KeyOrd.kle_refl _
theorem wp_rev {i j : Nat} {Q : Unit -> SortSt -> Prop} (q : Q () (setArr st (mirror (arrOf st) i j ((j - i) / 2)))) : wpS (model prog w) A E s (reverseSlice' i j) Q st := by
 rw [reverseSlice'_eq]; exact wpS_modify q
theorem Ch.revEq {lo i j : Nat} (h : SB a₀ kd st) (hj : j <= a₀.size) (e : ∀ k, i <= k -> k < j -> KK κ (arrOf st) k = KK κ (arrOf st) (j - 1)) : Ch a₀ κ kd lo st (setArr st (mirror (arrOf st) i j ((j - i) / 2))) :=
 ⟨h.set (mirror_perm ..), rfl, fun k hk => KK_mirror_equal (h.size ▸ hj) e k⟩
def ascM (lo a nrem : Nat) : SM (Option (Option Nat) × Nat) :=
 forIn [a:nrem] ((none, a) : Option (Option Nat) × Nat) fun _ s => do
  let r ← ltAt' (lo + s.2) (lo + s.2 - 1)
  match r with
  | some smaller => if smaller = true then pure (.done (none, s.2)) else pure (.yield (none, s.2 + 1))
  | _ => pure (.done (some none, s.2))
def tailP (lo n nrem : Nat) : SM (Option Nat) := do
 reverseSlice' lo (lo + n)
 let s ← ascM lo n nrem
 match s.1 with
 | some r => pure r
 | none => pure (some s.2)
def descL (lo n nrem : Nat) : SM (Option (Option Nat) × Nat × Nat) :=
 forIn [n:nrem] ((none, n, 0) : Option (Option Nat) × Nat × Nat) fun _ s => do
  let r ← ltAt' (lo + s.2.1) (lo + s.2.1 - 1)
  match r with
  | some smaller =>
   if smaller = true then
    if s.2.2 > 0 then do
     reverseSlice' (lo + s.2.1 - (s.2.2 + 1)) (lo + s.2.1)
     pure (.yield (none, s.2.1 + 1, 0))
    else pure (.yield (none, s.2.1 + 1, 0))
   else do
    let r ← ltAt' (lo + s.2.1 - 1) (lo + s.2.1)
    match r with
    | some larger => if larger = true then pure (.done (none, s.2.1, s.2.2)) else pure (.yield (none, s.2.1 + 1, s.2.2 + 1))
    | _ => pure (.done (some none, s.2.1, s.2.2))
  | _ => pure (.done (some none, s.2.1, s.2.2))
def descP (lo n nrem : Nat) : SM (Option Nat) := do
 liftM (rule "list.sort.descending-run")
 let s ← descL lo (n + 1) nrem
 match s.1 with
 | some r => pure r
 | none =>
  if s.2.2 > 0 then do
   reverseSlice' (lo + s.2.1 - (s.2.2 + 1)) (lo + s.2.1)
   tailP lo s.2.1 nrem
  else tailP lo s.2.1 nrem
theorem countRun_eq (lo nrem : Nat) : countRun' lo nrem = (do
  let s ← ascM lo 1 nrem
  match s.1 with
  | some r => pure r
  | none =>
   if (s.2 == nrem) = true then pure (some s.2)
   else
    if s.2 > 1 then do
     let r ← ltAt' lo (lo + s.2 - 1)
     match r with
     | some rose => if rose = true then pure (some s.2) else do
       reverseSlice' lo (lo + s.2)
       descP lo s.2 nrem
     | _ => pure none
    else descP lo s.2 nrem) := by
 unfold countRun'
 refine congr (congrArg Bind.bind ?_) (funext fun s => ?_)
 ·rfl
 ·obtain ⟨s1, s2⟩ := s
  cases s1 with
  | some r => rfl
  | none =>
   show ite _ _ _ = ite _ _ _
   refine congrArg (ite _ _) ?_
   show ite _ _ _ = ite _ _ _
   refine congr (congrArg (ite _) ?_) ?_
   ·refine congr (congrArg Bind.bind ?_) (funext fun s => ?_)
    ·rfl
    ·cases s with
     | none => rfl
     | some b =>
      show ite _ _ _ = ite _ _ _
      refine congrArg (ite _ _) ?_
      refine congr (congrArg Bind.bind ?_) (funext fun s => ?_)
      ·rfl
      ·unfold descP
       refine congr (congrArg Bind.bind ?_) (funext fun s => ?_)
       ·rfl
       ·refine congr (congrArg Bind.bind ?_) (funext fun s => ?_)
        ·rfl
        ·obtain ⟨s1, s2, s3⟩ := s
         cases s1 with
         | some r => rfl
         | none =>
          show ite _ _ _ = ite _ _ _
          refine congr (congrArg (ite _) ?_) ?_
          ·refine congr (congrArg Bind.bind ?_) (funext fun s => ?_)
           ·rfl
           ·refine congr (congrArg Bind.bind ?_) (funext fun s => ?_)
            ·rfl
            ·refine congr (congrArg Bind.bind ?_) (funext fun s => ?_)
             ·rfl
             ·obtain ⟨s1, s2⟩ := s
              cases s1 <;> rfl
          ·refine congr (congrArg Bind.bind ?_) (funext fun s => ?_)
           ·rfl
           ·refine congr (congrArg Bind.bind ?_) (funext fun s => ?_)
            ·rfl
            ·obtain ⟨s1, s2⟩ := s
             cases s1 <;> rfl
   ·unfold descP
    refine congr (congrArg Bind.bind ?_) (funext fun s => ?_)
    ·rfl
    ·refine congr (congrArg Bind.bind ?_) (funext fun s => ?_)
     ·rfl
     ·obtain ⟨s1, s2, s3⟩ := s
      cases s1 with
      | some r => rfl
      | none =>
       show ite _ _ _ = ite _ _ _
       refine congr (congrArg (ite _) ?_) ?_
       ·refine congr (congrArg Bind.bind ?_) (funext fun s => ?_)
        ·rfl
        ·refine congr (congrArg Bind.bind ?_) (funext fun s => ?_)
         ·rfl
         ·refine congr (congrArg Bind.bind ?_) (funext fun s => ?_)
          ·rfl
          ·obtain ⟨s1, s2⟩ := s
           cases s1 <;> rfl
       ·refine congr (congrArg Bind.bind ?_) (funext fun s => ?_)
        ·rfl
        ·refine congr (congrArg Bind.bind ?_) (funext fun s => ?_)
         ·rfl
         ·obtain ⟨s1, s2⟩ := s
          cases s1 <;> rfl
theorem wp_asc {lo a nrem : Nat} (c : CL (model prog w) A E s a₀ κ kd) (h : SB a₀ kd st) (h1 : 1 <= a) (h2 : a <= nrem) (h3 : lo + nrem <= a₀.size) (sg : Seg κ (arrOf st) lo (lo + a)) {Q : Option (Option Nat) × Nat -> SortSt -> Prop}
  (q : ∀ n, a <= n -> n <= nrem -> Seg κ (arrOf st) lo (lo + n) -> (n = nrem \/ κ.klt (KK κ (arrOf st) (lo + n)) (KK κ (arrOf st) (lo + n - 1))) -> Q (none, n) st) : wpS (model prog w) A E s (ascM lo a nrem) Q st := by
 unfold ascM
 refine wp_range a nrem _ _ (fun r b st' => st' = st /\ b.1 = none /\ a <= b.2 /\ b.2 + r = nrem /\ Seg κ (arrOf st) lo (lo + b.2)) _ ⟨rfl, rfl, Nat.le_refl _, by dsimp only; omega, sg⟩ ?_ ?_
 ·rintro x r ⟨b0, n⟩ st' _ _ _ ⟨rfl, hb, e1, e2, sg⟩
  simp only at hb e1 e2 sg ⊢
  subst hb
  refine wpS_bind (h.lt c (by omega) (by omega) ?_)
  simp only
  cases hv : κ.blt (KK κ (arrOf st') (lo + n)) (KK κ (arrOf st') (lo + n - 1)) with
  | true => exact wpS_pure (q n e1 (by omega) sg (.inr hv))
  | false => exact wpS_pure ⟨rfl, rfl, by dsimp only; omega, by dsimp only; omega, sg.snoc (by omega) hv⟩
 ·rintro ⟨b0, n⟩ st' ⟨rfl, hb, e1, e2, sg⟩
  simp only at hb e1 e2 sg ⊢
  subst hb
  exact q n e1 (by omega) sg (.inl (by omega))
theorem NInc.rev {xs : Array Keyed} {lo n : Nat} (h : NInc κ xs lo (lo + n)) (hs : lo + n <= xs.size) : Seg κ (mirror xs lo (lo + n) ((lo + n - lo) / 2)) lo (lo + n) := fun i j h1 h2 h3 => by
 rw [KK_mirror hs, KK_mirror hs, if_pos ⟨h1, by omega⟩, if_pos ⟨by omega, h3⟩]
 exact h _ _ (by omega) (by omega) (by omega)
theorem wp_tailP {lo n nrem : Nat} (c : CL (model prog w) A E s a₀ κ kd) (h : SB a₀ kd st) (h1 : 1 <= n) (h2 : n <= nrem) (h3 : lo + nrem <= a₀.size) (ni : NInc κ (arrOf st) lo (lo + n)) {Q : Option Nat -> SortSt -> Prop}
  (q : ∀ m st', Ch a₀ κ kd lo st st' -> 1 <= m -> m <= nrem -> Seg κ (arrOf st') lo (lo + m) -> Q (some m) st') : wpS (model prog w) A E s (tailP lo n nrem) Q st := by
 unfold tailP
 refine wpS_bind (wp_rev ?_)
 have hs : lo + n <= (arrOf st).size := by rw [h.size]; omega
 have h' := h.set (mirror_perm (arrOf st) lo (lo + n) ((lo + n - lo) / 2))
 refine wpS_bind (wp_asc c h' h1 h2 h3 (ni.rev hs) fun m m1 m2 sg _ => ?_)
 exact wpS_pure (q m _ ⟨h', rfl, fun k hk => by
  show KK κ (mirror (arrOf st) lo (lo + n) ((lo + n - lo) / 2)) k = _
  rw [KK_mirror hs, if_neg (by omega)]⟩ (by omega) m2 sg)
theorem NInc.congr {xs ys : Array Keyed} {lo hi : Nat} (h : NInc κ xs lo hi) (e : ∀ k, k < hi -> KK κ ys k = KK κ xs k) : NInc κ ys lo hi := fun i j h1 h2 h3 => by rw [e i (by omega), e j h3]; exact h i j h1 h2 h3
theorem wp_descP {lo n nrem : Nat} (c : CL (model prog w) A E s a₀ κ kd) (h : SB a₀ kd st) (h2 : n + 1 <= nrem) (h3 : lo + nrem <= a₀.size) (ni : NInc κ (arrOf st) lo (lo + (n + 1))) {Q : Option Nat -> SortSt -> Prop}
  (q : ∀ m st', Ch a₀ κ kd lo st st' -> 1 <= m -> m <= nrem -> Seg κ (arrOf st') lo (lo + m) -> Q (some m) st') : wpS (model prog w) A E s (descP lo n nrem) Q st := by
 unfold descP
 refine wpS_bind (wpS_lift (wpAny_rule ⟨rfl, ?_⟩))
 have fin' : ∀ m e st', Ch a₀ κ kd lo st st' -> m <= nrem -> e + 1 <= m -> NInc κ (arrOf st') lo (lo + m) -> (∀ k, lo + m - (e + 1) <= k -> k < lo + m -> KK κ (arrOf st') k = KK κ (arrOf st') (lo + m - 1)) -> wpS (model prog w) A E s (if e > 0 then do { reverseSlice' (lo + m - (e + 1)) (lo + m); tailP lo m nrem } else tailP lo m nrem) Q st' := by
  intro m e st' ch m1 m2 ni eq
  split
  ·refine wpS_bind (wp_rev ?_)
   have c2 := Ch.revEq (κ := κ) (lo := lo + nrem) ch.sb (i := lo + m - (e + 1)) (j := lo + m) (by omega) eq
   refine wp_tailP c c2.sb (by omega) m1 h3 (ni.congr fun k hk => c2.pre k (by omega)) fun m' st'' c3 b1 b2 sg => q m' st'' (ch.trans (Ch.trans ⟨c2.sb, c2.pend, fun k hk => c2.pre k (by omega)⟩ c3)) b1 b2 sg
  ·exact wp_tailP c ch.sb (by omega) m1 h3 ni fun m' st'' c3 b1 b2 sg => q m' st'' (ch.trans c3) b1 b2 sg
 unfold descL
 refine wpS_bind (wp_range (n + 1) nrem _ _ (fun r b st' => b.1 = none /\ Ch a₀ κ kd lo st st' /\ b.2.1 + r = nrem /\ b.2.2 + 1 <= b.2.1 /\ NInc κ (arrOf st') lo (lo + b.2.1) /\ (∀ k, lo + b.2.1 - (b.2.2 + 1) <= k -> k < lo + b.2.1 -> KK κ (arrOf st') k = KK κ (arrOf st') (lo + b.2.1 - 1))) _ ⟨rfl, .refl h, by dsimp only; omega, by dsimp only; omega, ni, fun k k1 k2 => by
   dsimp only at k1 k2 ⊢
   rw [show k = lo + (n + 1) - 1 by omega]⟩ ?_ ?_)
 ·rintro x r ⟨b0, m, e⟩ st' _ _ _ ⟨hb, ch, e1, e2, ni, eq⟩
  simp only at hb e1 e2 ni eq ⊢
  subst hb
  refine wpS_bind (ch.sb.lt c (by omega) (by omega) ?_)
  simp only
  cases hv : κ.blt (KK κ (arrOf st') (lo + m)) (KK κ (arrOf st') (lo + m - 1)) with
  | true =>
   simp only [if_true]
   have ni' := ni.snoc (by omega) (KeyOrd.kle_of_klt hv)
   split
   ·refine wpS_bind (wp_rev (wpS_pure ?_))
    have c2 := Ch.revEq (κ := κ) (lo := lo + nrem) ch.sb (i := lo + m - (e + 1)) (j := lo + m) (by omega) eq
    exact ⟨rfl, ch.trans ⟨c2.sb, c2.pend, fun k hk => c2.pre k (by omega)⟩, by dsimp only; omega, by dsimp only; omega, ni'.congr fun k hk => c2.pre k (by omega), fun k k1 k2 => by
     dsimp only at k1 k2 ⊢
     rw [show k = lo + (m + 1) - 1 by omega]⟩
   ·exact wpS_pure ⟨rfl, ch, by dsimp only; omega, by dsimp only; omega, ni', fun k k1 k2 => by
     dsimp only at k1 k2 ⊢
     rw [show k = lo + (m + 1) - 1 by omega]⟩
  | false =>
   simp only [Bool.false_eq_true, if_false]
   refine wpS_bind (ch.sb.lt c (by omega) (by omega) ?_)
   simp only
   cases hw : κ.blt (KK κ (arrOf st') (lo + m - 1)) (KK κ (arrOf st') (lo + m)) with
   | true => exact wpS_pure (fin' m e st' ch (by omega) e2 ni eq)
   | false =>
    have he : KK κ (arrOf st') (lo + m) = KK κ (arrOf st') (lo + m - 1) := KeyOrd.kle_antisymm hw hv
    refine wpS_pure ⟨rfl, ch, by dsimp only; omega, by dsimp only; omega, ni.snoc (by omega) hw, fun k k1 k2 => ?_⟩
    dsimp only at k1 k2 ⊢
    rw [show lo + (m + 1) - 1 = lo + m by omega]
    rcases Nat.lt_or_ge k (lo + m) with hk | hk
    ·rw [eq k (by omega) hk, he]
    ·rw [show k = lo + m by omega]
 ·rintro ⟨b0, m, e⟩ st' ⟨hb, ch, e1, e2, ni, eq⟩
  simp only at hb e1 e2 ni eq ⊢
  subst hb
  exact fin' m e st' ch (by omega) e2 ni eq
theorem wp_countRun {lo nrem : Nat} (c : CL (model prog w) A E s a₀ κ kd) (h : SB a₀ kd st) (h1 : 1 <= nrem) (h3 : lo + nrem <= a₀.size) {Q : Option Nat -> SortSt -> Prop}
  (q : ∀ m st', Ch a₀ κ kd lo st st' -> 1 <= m -> m <= nrem -> Seg κ (arrOf st') lo (lo + m) -> Q (some m) st') : wpS (model prog w) A E s (countRun' lo nrem) Q st := by
 rw [countRun_eq]
 have s1 : Seg κ (arrOf st) lo (lo + 1) := fun i j a b d => by
  rw [show i = j by omega]; exact KeyOrd.kle_refl _
 refine wpS_bind (wp_asc c h (Nat.le_refl _) h1 h3 s1 fun n n1 n2 sg hd => ?_)
 simp only
 split
 ·exact wpS_pure (q n st (.refl h) n1 n2 sg)
 ·rename_i hne
  have hne : n ≠ nrem := by simpa using hne
  have hd : κ.klt (KK κ (arrOf st) (lo + n)) (KK κ (arrOf st) (lo + n - 1)) := hd.resolve_left hne
  split
  ·rename_i hgt
   refine wpS_bind (h.lt c (by omega) (by omega) ?_)
   simp only
   cases hv : κ.blt (KK κ (arrOf st) lo) (KK κ (arrOf st) (lo + n - 1)) with
   | true => exact wpS_pure (q n st (.refl h) n1 n2 sg)
   | false =>
    simp only [Bool.false_eq_true, if_false]
    have eq : ∀ k, lo <= k -> k < lo + n -> KK κ (arrOf st) k = KK κ (arrOf st) (lo + n - 1) := fun k k1 k2 => KeyOrd.kle_antisymm (sg k _ k1 (by omega) (by omega)) (KeyOrd.kle_trans hv (sg lo k (Nat.le_refl _) k1 k2))
    refine wpS_bind (wp_rev ?_)
    have c2 := Ch.revEq (κ := κ) (lo := lo + nrem) h (i := lo) (j := lo + n) (by omega) eq
    have ni : NInc κ (arrOf st) lo (lo + n) := fun i j a b d => by rw [eq i a (by omega), eq j (by omega) d]; exact KeyOrd.kle_refl _
    refine wp_descP c c2.sb (by omega) h3 ((ni.snoc (by omega) (KeyOrd.kle_of_klt hd)).congr fun k hk => c2.pre k (by omega)) fun m st' c3 b1 b2 sg => q m st' (Ch.trans ⟨c2.sb, c2.pend, fun k hk => c2.pre k (by omega)⟩ c3) b1 b2 sg
  ·have : n = 1 := by omega
   subst this
   have ni : NInc κ (arrOf st) lo (lo + 1) := fun i j a b d => by rw [show i = j by omega]; exact KeyOrd.kle_refl _
   exact wp_descP c h (by omega) h3 (ni.snoc (by omega) (KeyOrd.kle_of_klt hd)) q
end
end TS
end
section
namespace TS
section
variable {prog : Program} {w : World} {A : Around} {E : Value -> Shared -> Prop} {s : Shared} {a₀ : Array Keyed} {κ : PyProof.Rows.KeyKind} {kd : SortKind} {st : SortSt}
theorem wp_bin {lo n ok : Nat} (c : CL (model prog w) A E s a₀ κ kd) (h : SB a₀ kd st) (h1 : 1 <= ok) (h2 : ok <= n) (h3 : lo + n <= a₀.size) (sg : Seg κ (arrOf st) lo (lo + ok)) {Q : Bool -> SortSt -> Prop}
  (q : ∀ st', Ch a₀ κ kd lo st st' -> Seg κ (arrOf st') lo (lo + n) -> Q true st') : wpS (model prog w) A E s (binarySort' lo n ok) Q st := by
 rw [binarySort'_eq]
 refine wpS_bind (wp_range (max ok 1) n _ _ (fun r b st' => b.1 = none /\ Ch a₀ κ kd lo st st' /\ Seg κ (arrOf st') lo (lo + (n - r))) _ ⟨rfl, .refl h, by rw [show n - (n - max ok 1) = ok by omega]; exact sg⟩ ?_ ?_)
 ·rintro k r ⟨b0, b1⟩ st' k1 k2 k3 ⟨hb, ch, sg⟩
  simp only at hb sg ⊢
  subst hb
  rw [show n - (r + 1) = k by omega] at sg
  have bis : ∀ l, l <= k -> (∀ i, i < l -> κ.kle (KK κ (arrOf st') (lo + i)) (KK κ (arrOf st') (lo + k))) -> (∀ i, l <= i -> i < k -> κ.kle (KK κ (arrOf st') (lo + k)) (KK κ (arrOf st') (lo + i))) -> wpS (model prog w) A E s (do { moveDown' (lo + k) (lo + l); pure (ForInStep.yield ((none, ()) : Option Bool × Unit)) }) (fun q st' => match q with | .done b' => wpS (model prog w) A E s (match b'.1 with | some r => pure r | none => pure true) Q st' | .yield b' => b'.1 = none /\ Ch a₀ κ kd lo st st' /\ Seg κ (arrOf st') lo (lo + (n - r))) st' := by
   intro l hl a1 a2
   rw [moveDown'_eq]
   refine wpS_bind (wpS_modify (wpS_pure ?_))
   have hz : lo + k < (arrOf st').size := by rw [ch.sb.size]; omega
   have kb := KK_bubble (κ := κ) (xs := arrOf st') (src := lo + k) (d := lo + k - (lo + l)) hz (by omega)
   refine ⟨rfl, ch.trans ⟨ch.sb.set (bubble_perm ..), rfl, fun i hi => ?_⟩, ?_⟩
   ·show KK κ (bubble (arrOf st') (lo + k) (lo + k - (lo + l))) i = _
    rw [kb, if_neg (by omega), if_neg (by omega)]
   ·show Seg κ (bubble (arrOf st') (lo + k) (lo + k - (lo + l))) lo (lo + (n - r))
    rw [show n - r = k + 1 by omega]
    have e : lo + k - (lo + k - (lo + l)) = lo + l := by omega
    rw [e] at kb
    intro i j i1 i2 i3
    rw [kb i, kb j]
    by_cases hi : i = lo + l
    ·subst hi
     rw [if_pos rfl]
     by_cases hj : j = lo + l
     ·rw [if_pos hj]; exact KeyOrd.kle_refl _
     ·rw [if_neg hj, if_pos ⟨by omega, by omega⟩]
      have := a2 (j - 1 - lo) (by omega) (by omega)
      rwa [show lo + (j - 1 - lo) = j - 1 by omega] at this
    ·rw [if_neg hi]
     by_cases hi2 : lo + l < i /\ i <= lo + k
     ·rw [if_pos hi2, if_neg (by omega), if_pos ⟨by omega, by omega⟩]
      exact sg _ _ (by omega) (by omega) (by omega)
     ·rw [if_neg hi2]
      by_cases hj : j = lo + l
      ·rw [if_pos hj]
       have := a1 (i - lo) (by omega)
       rwa [show lo + (i - lo) = i by omega] at this
      ·rw [if_neg hj]
       split
       ·exact sg _ _ (by omega) (by omega) (by omega)
       ·exact sg _ _ (by omega) (by omega) (by omega)
  refine wpS_bind (wp_range 0 k _ _ (fun r' b st'' => st'' = st' /\ b.1 = none /\ b.2.1 <= b.2.2 /\ b.2.2 <= k /\ b.2.2 - b.2.1 <= r' /\ (∀ i, i < b.2.1 -> κ.kle (KK κ (arrOf st') (lo + i)) (KK κ (arrOf st') (lo + k))) /\ (∀ i, b.2.2 <= i -> i < k -> κ.kle (KK κ (arrOf st') (lo + k)) (KK κ (arrOf st') (lo + i)))) _ ⟨rfl, rfl, by dsimp only; omega, by dsimp only; omega, by dsimp only; omega, fun i hi => absurd hi (Nat.not_lt_zero _), fun i a b => absurd b (by dsimp only at a; omega)⟩ ?_ ?_)
  ·rintro x r' ⟨b0, lo', hi'⟩ st'' _ _ _ ⟨rfl, hb, e1, e2, e3, a1, a2⟩
   simp only at hb e1 e2 e3 a1 a2 ⊢
   subst hb
   split
   ·exact wpS_pure (bis lo' (by omega) a1 fun i i1 i2 => a2 i (by omega) i2)
   ·refine wpS_bind (ch.sb.lt c (by omega) (by omega) ?_)
    simp only
    cases hv : κ.blt (KK κ (arrOf st'') (lo + k)) (KK κ (arrOf st'') (lo + (lo' + hi') / 2)) with
    | true => exact wpS_pure ⟨rfl, rfl, by dsimp only; omega, by dsimp only; omega, by dsimp only; omega, a1, fun i i1 i2 => KeyOrd.kle_trans (KeyOrd.kle_of_klt hv) (sg _ _ (by omega) (by dsimp only at i1; omega) (by omega))⟩
    | false => exact wpS_pure ⟨rfl, rfl, by dsimp only; omega, by dsimp only; omega, by dsimp only; omega, fun i i1 => KeyOrd.kle_trans (sg _ _ (by omega) (by dsimp only at i1; omega) (by omega)) hv, a2⟩
  ·rintro ⟨b0, lo', hi'⟩ st'' ⟨rfl, hb, e1, e2, e3, a1, a2⟩
   simp only at hb e1 e2 e3 a1 a2 ⊢
   subst hb
   exact bis lo' (by omega) a1 fun i i1 i2 => a2 i (by omega) i2
 ·rintro ⟨b0, b1⟩ st' ⟨hb, ch, sg⟩
  simp only at hb sg ⊢
  subst hb
  exact wpS_pure (q st' ch sg)
end
end TS
end
section
namespace TS
section
variable {prog : Program} {w : World} {A : Around} {E : Value -> Shared -> Prop} {s : Shared} {a₀ : Array Keyed} {κ : PyProof.Rows.KeyKind} {kd : SortKind} {st : SortSt}
def bey (left : Bool) (key : Keyed) (arr : Array Keyed) (base i : Nat) : SM (Option Bool) := do
 let x ← elem' arr (base + i)
 if left = true then lt' x key else do
  let r ← lt' key x
  pure (Option.map (fun x => !x) r)
abbrev GalT := Bool -> Keyed -> Array Keyed -> Nat -> Nat -> Nat -> SM (Option Nat)
def GalSpec (g : GalT) : Prop := ∀ left key arr base n hint, g left key arr base n hint = galM (bey left key arr base) n hint
theorem wp_galF {g : GalT} (hg : GalSpec g) (c : CL (model prog w) A E s a₀ κ kd) (hk : kindOf st = kd) {key : Keyed} {arr : Array Keyed} {base n hint : Nat} (mk : key ∈ a₀.toList) (ma : ∀ x, x ∈ arr.toList -> x ∈ a₀.toList) (hb : base + n <= arr.size) (sg : Seg κ arr base (base + n)) (hh : hint < n) {Q : Option Nat -> SortSt -> Prop}
  (q : ∀ k, k <= n -> (∀ i, i < k -> κ.kle (KK κ arr (base + i)) (ky κ key)) -> (∀ i, k <= i -> i < n -> κ.klt (ky κ key) (KK κ arr (base + i))) -> Q (some k) st) : wpS (model prog w) A E s (g false key arr base n hint) Q st := by
 rw [hg]
 refine wp_gal (B := fun i => !κ.blt (ky κ key) (KK κ arr (base + i))) (fun i hi Q q => ?_) (fun i j hij hj h => ?_) hh fun k ⟨k1, k2, k3⟩ => q k k1 (fun i hi => by have := k2 i hi; simpa [KeyOrd.kle] using this) fun i i1 i2 => by have := k3 i i1 i2; simpa [KeyOrd.klt] using this
 ·unfold bey
  have hz : base + i < arr.size := by omega
  refine wpS_bind (wp_elem hz ?_)
  simp only [Bool.false_eq_true, if_false]
  refine wpS_bind (c _ _ mk (ma _ (by simp)) _ _ hk ?_)
  rw [<- KK_ky (Array.getElem?_eq_getElem hz)]
  exact wpS_pure q
 ·simp only [Bool.not_eq_true'] at h ⊢
  exact KeyOrd.kle_trans (sg _ _ (by omega) (by omega) (by omega)) h
theorem wp_galT {g : GalT} (hg : GalSpec g) (c : CL (model prog w) A E s a₀ κ kd) (hk : kindOf st = kd) {key : Keyed} {arr : Array Keyed} {base n hint : Nat} (mk : key ∈ a₀.toList) (ma : ∀ x, x ∈ arr.toList -> x ∈ a₀.toList) (hb : base + n <= arr.size) (sg : Seg κ arr base (base + n)) (hh : hint < n) {Q : Option Nat -> SortSt -> Prop}
  (q : ∀ k, k <= n -> (∀ i, i < k -> κ.klt (KK κ arr (base + i)) (ky κ key)) -> (∀ i, k <= i -> i < n -> κ.kle (ky κ key) (KK κ arr (base + i))) -> Q (some k) st) : wpS (model prog w) A E s (g true key arr base n hint) Q st := by
 rw [hg]
 refine wp_gal (B := fun i => κ.blt (KK κ arr (base + i)) (ky κ key)) (fun i hi Q q => ?_) (fun i j hij hj h => ?_) hh fun k ⟨k1, k2, k3⟩ => q k k1 (fun i hi => k2 i hi) fun i i1 i2 => k3 i i1 i2
 ·unfold bey
  have hz : base + i < arr.size := by omega
  refine wpS_bind (wp_elem hz ?_)
  simp only [if_true]
  refine c _ _ (ma _ (by simp)) mk _ _ hk ?_
  rw [<- KK_ky (Array.getElem?_eq_getElem hz)]
  exact q
 ·exact KeyOrd.klt_of_kle_of_klt (sg _ _ (by omega) (by omega) (by omega)) h
structure MS (R : Keyed -> Keyed -> Prop) (tot out la lb : List Keyed) : Prop where
 perm : (out ++ la ++ lb).Perm tot
 so : out.Pairwise R
 oa : ∀ x, x ∈ out -> ∀ y, y ∈ la -> R x y
 ob : ∀ x, x ∈ out -> ∀ y, y ∈ lb -> R x y
variable {R : Keyed -> Keyed -> Prop} {tot out la lb u : List Keyed}
theorem MS.chA (h : MS R tot out (u ++ la) lb) (sa : (u ++ la).Pairwise R) (hx : ∀ x, x ∈ u -> ∀ y, y ∈ lb -> R x y) : MS R tot (out ++ u) la lb := by
 have sa' := List.pairwise_append.mp sa
 refine ⟨?_, ?_, ?_, ?_⟩
 ·have := h.perm; simpa using this
 ·exact List.pairwise_append.mpr ⟨h.so, sa'.1, fun x hx y hy => h.oa x hx y (List.mem_append_left _ hy)⟩
 ·intro x hx y hy
  rcases List.mem_append.mp hx with hx | hx
  ·exact h.oa x hx y (List.mem_append_right _ hy)
  ·exact sa'.2.2 x hx y hy
 ·intro x hx' y hy
  rcases List.mem_append.mp hx' with hx' | hx'
  ·exact h.ob x hx' y hy
  ·exact hx x hx' y hy
theorem MS.chB (h : MS R tot out la (u ++ lb)) (sb : (u ++ lb).Pairwise R) (hx : ∀ x, x ∈ u -> ∀ y, y ∈ la -> R x y) : MS R tot (out ++ u) la lb := by
 have sb' := List.pairwise_append.mp sb
 refine ⟨?_, ?_, ?_, ?_⟩
 ·refine List.Perm.trans ?_ h.perm
  rw [List.append_assoc, List.append_assoc, List.append_assoc]
  refine List.Perm.append_left _ ?_
  rw [<- List.append_assoc, <- List.append_assoc]
  exact List.Perm.append_right _ List.perm_append_comm
 ·exact List.pairwise_append.mpr ⟨h.so, sb'.1, fun x hx y hy => h.ob x hx y (List.mem_append_left _ hy)⟩
 ·intro x hx' y hy
  rcases List.mem_append.mp hx' with hx' | hx'
  ·exact h.oa x hx' y hy
  ·exact hx x hx' y hy
 ·intro x hx y hy
  rcases List.mem_append.mp hx with hx | hx
  ·exact h.ob x hx y (List.mem_append_right _ hy)
  ·exact sb'.2.2 x hx y hy
def GoodM (R : Keyed -> Keyed -> Prop) (tot m : List Keyed) : Prop := m.Perm tot /\ m.Pairwise R
theorem MS.finA (h : MS R tot out la []) (sa : la.Pairwise R) : GoodM R tot (out ++ la) := ⟨by simpa using h.perm, List.pairwise_append.mpr ⟨h.so, sa, h.oa⟩⟩
theorem MS.finB (h : MS R tot out [] lb) (sb : lb.Pairwise R) : GoodM R tot (out ++ lb) := ⟨by simpa using h.perm, List.pairwise_append.mpr ⟨h.so, sb, h.ob⟩⟩
theorem MS.finBA (h : MS R tot out la lb) (sa : la.Pairwise R) (sb : lb.Pairwise R) (hx : ∀ y, y ∈ lb -> ∀ x, x ∈ la -> R y x) : GoodM R tot (out ++ lb ++ la) :=
 ⟨List.Perm.trans (by rw [List.append_assoc, List.append_assoc]; exact List.Perm.append_left _ List.perm_append_comm) h.perm, List.pairwise_append.mpr ⟨List.pairwise_append.mpr ⟨h.so, sb, h.ob⟩, sa, fun x hx' y hy => by
  rcases List.mem_append.mp hx' with h' | h'
  ·exact h.oa x h' y hy
  ·exact hx x h' y hy⟩⟩
def Rk (κ : PyProof.Rows.KeyKind) (x y : Keyed) : Prop := κ.kle (ky κ x) (ky κ y)
theorem seg_pair {a : Array Keyed} (h : Seg κ a 0 a.size) : a.toList.Pairwise (Rk κ) := by
 rw [List.pairwise_iff_getElem]
 intro i j hi hj hij
 have := h i j (Nat.zero_le _) (by omega) (by simpa using hj)
 rwa [KK_ky (Array.getElem?_eq_getElem (by simpa using hi)), KK_ky (Array.getElem?_eq_getElem (by simpa using hj))] at this
theorem pair_seg {a : Array Keyed} (h : a.toList.Pairwise (Rk κ)) : Seg κ a 0 a.size := by
 rw [List.pairwise_iff_getElem] at h
 intro i j _ hij hj
 rcases Nat.lt_or_ge i j with h' | h'
 ·have := h i j (by simp; omega) (by simpa using hj) h'
  rw [KK_ky (Array.getElem?_eq_getElem (by omega)), KK_ky (Array.getElem?_eq_getElem hj)]
  exact this
 ·rw [show i = j by omega]; exact KeyOrd.kle_refl _
theorem drop_at {a : Array Keyed} {i : Nat} (h : i < a.size) : a.toList.drop i = [a[i]] ++ a.toList.drop (i + 1) := by
 rw [List.drop_eq_getElem_cons (by simpa using h)]; simp
theorem drop_take {l : List Keyed} (i k : Nat) : l.drop i = (l.drop i).take k ++ l.drop (i + k) := by
 rw [<- List.drop_drop, List.take_append_drop]
theorem ex_all {a : Array Keyed} (i : Nat) : (a.extract i).toList = a.toList.drop i := by
 simp [List.take_of_length_le]
theorem ex_some {a : Array Keyed} (i k : Nat) : (a.extract i (i + k)).toList = (a.toList.drop i).take k := by
 simp [Array.toList_extract, List.extract, List.take_drop]
theorem mem_chunk {a : Array Keyed} {i k : Nat} {x : Keyed} (h : x ∈ (a.toList.drop i).take k) : ∃ j, j < k /\ i + j < a.size /\ KK κ a (i + j) = ky κ x := by
 obtain ⟨j, hj, e⟩ := List.getElem_of_mem h
 simp only [List.length_take, List.length_drop, Array.length_toList] at hj
 refine ⟨j, by omega, by omega, ?_⟩
 rw [KK_ky (Array.getElem?_eq_getElem (by omega)), <- e]
 simp
theorem mem_dropA {a : Array Keyed} {i : Nat} {x : Keyed} (h : x ∈ a.toList.drop i) : ∃ j, i <= j /\ j < a.size /\ KK κ a j = ky κ x := by
 obtain ⟨j, hj, e⟩ := List.getElem_of_mem h
 simp only [List.length_drop, Array.length_toList] at hj
 refine ⟨i + j, by omega, by omega, ?_⟩
 rw [KK_ky (Array.getElem?_eq_getElem (by omega)), <- e]
 simp
end
end TS
end
section
namespace TS
section
variable {prog : Program} {w : World} {A : Around} {E : Value -> Shared -> Prop} {s : Shared} {a₀ : Array Keyed} {κ : PyProof.Rows.KeyKind} {kd : SortKind} {st : SortSt}
def wr (arr : Array Keyed) (sa : Nat) (m : Array Keyed) : Array Keyed := List.foldl (fun a x => match x with | (p, j) => a.setIfInBounds (sa + j) p) arr m.toList.zipIdx
def mergeFin (sa : Nat) (m : Array Keyed) : SM Bool := do
 modify fun s => setArr s (wr (arrOf s) sa m)
 let s ← get
 pure (failedOf s).isNone
abbrev MrgT := Array Keyed -> Array Keyed -> SM (Array Keyed)
def mergeAtG (g : GalT) (mlo mhi : MrgT) (i : Nat) : SM Bool := do
 let s ← get
 match (pendingOf s)[i]?, (pendingOf s)[i + 1]? with
 | some (sa, na, power), some (sb, nb, _) => do
  set (setPending s (((pendingOf s).setIfInBounds i (sa, na + nb, power)).eraseIdxIfInBounds (i + 1)))
  let x ← elem' (arrOf s) sb
  let r ← g false x (arrOf s) sa na 0
  match r with
  | some k =>
   if (na - k == 0) = true then pure true
   else do
    let y ← elem' (arrOf s) (sa + k + (na - k) - 1)
    let r ← g true y (arrOf s) sb nb (nb - 1)
    match r with
    | some nb =>
     if (nb == 0) = true then pure true
     else
      if na - k <= nb then do
       let m ← mlo ((arrOf s).extract (sa + k) sb) ((arrOf s).extract sb (sb + nb))
       mergeFin (sa + k) m
      else do
       let m ← mhi ((arrOf s).extract (sa + k) sb) ((arrOf s).extract sb (sb + nb))
       mergeFin (sa + k) m
    | _ => pure false
  | _ => pure false
 | _, _ => liftM (unsupported "internal:list.sort.pending")
structure St (st st' : SortSt) : Prop where
 arr : arrOf st' = arrOf st
 kind : kindOf st' = kindOf st
 pend : pendingOf st' = pendingOf st
 failed : failedOf st' = failedOf st
theorem St.refl (st : SortSt) : St st st := ⟨rfl, rfl, rfl, rfl⟩
def MrgSpec (mlo : MrgT) : Prop := ∀ (prog : Program) (w : World) (A : Around) (E : Value -> Shared -> Prop) (s : Shared) (a₀ : Array Keyed) (κ : PyProof.Rows.KeyKind) (kd : SortKind) (c : CL (model prog w) A E s a₀ κ kd) (st : SortSt) (hk : kindOf st = kd) (a b : Array Keyed), (∀ x, x ∈ a.toList -> x ∈ a₀.toList) -> (∀ x, x ∈ b.toList -> x ∈ a₀.toList) -> Seg κ a 0 a.size -> Seg κ b 0 b.size -> 0 < a.size -> 0 < b.size -> κ.klt (KK κ b 0) (KK κ a 0) -> κ.klt (KK κ b (b.size - 1)) (KK κ a (a.size - 1)) ->
 ∀ Q : Array Keyed -> SortSt -> Prop, (∀ m st', St st st' -> GoodM (Rk κ) (a.toList ++ b.toList) m.toList -> Q m st') -> wpS (model prog w) A E s (mlo a b) Q st
theorem ms0 {R : Keyed -> Keyed -> Prop} {la lb : List Keyed} : MS R (la ++ lb) [] la lb := ⟨.refl _, .nil, fun x h => absurd h (by simp), fun x h => absurd h (by simp)⟩
theorem wp_ite {M : Model} {σ α : Type} {p : Prop} [Decidable p] {x y : StateT σ Sem α} {Q : α -> σ -> Prop} {st : σ} (h1 : p -> wpS M A E s x Q st) (h2 : ¬p -> wpS M A E s y Q st) : wpS M A E s (if p then x else y) Q st := by
 split
 ·exact h1 ‹_›
 ·exact h2 ‹_›
def Rr (κ : PyProof.Rows.KeyKind) (x y : Keyed) : Prop := Rk κ y x
theorem goodRev {tot m : List Keyed} (h : GoodM (Rr κ) tot m.reverse) : GoodM (Rk κ) tot m := ⟨(List.reverse_perm m).symm.trans h.1, List.pairwise_reverse.mp h.2⟩
theorem MS.finAB {R : Keyed -> Keyed -> Prop} {tot out la lb : List Keyed} (h : MS R tot out la lb) (sa : la.Pairwise R) (sb : lb.Pairwise R) (hx : ∀ x, x ∈ la -> ∀ y, y ∈ lb -> R x y) : GoodM R tot (out ++ la ++ lb) := by
 have h' := MS.chA (u := la) (la := []) (by simpa using h) (by simpa using sa) hx
 exact h'.finB sb
theorem take_at {a : Array Keyed} {i : Nat} (h : i < a.size) : (a.toList.take (i + 1)).reverse = [a[i]] ++ (a.toList.take i).reverse := by
 rw [List.take_succ_eq_append_getElem (by simpa using h)]; simp
theorem take_ch {l : List Keyed} {i k : Nat} (h : i <= k) : (l.take k).reverse = ((l.drop i).take (k - i)).reverse ++ (l.take i).reverse := by
 rw [<- List.reverse_append]
 congr 1
 rw [<- List.take_add]; congr 1; omega
theorem ex_mid {a : Array Keyed} (i k : Nat) : ((a.extract i k).reverse).toList = ((a.toList.drop i).take (k - i)).reverse := by
 simp [Array.toList_extract, List.extract]
theorem mem_takeA {a : Array Keyed} {i : Nat} {x : Keyed} (h : x ∈ (a.toList.take i).reverse) : ∃ j, j < i /\ j < a.size /\ KK κ a j = ky κ x := by
 obtain ⟨j, hj, e⟩ := List.getElem_of_mem (List.mem_reverse.mp h)
 simp only [List.length_take, Array.length_toList] at hj
 refine ⟨j, by omega, by omega, ?_⟩
 rw [KK_ky (Array.getElem?_eq_getElem (by omega)), <- e]
 simp
theorem and3 {P Q R : Prop} (p : P) (q : P -> Q) (r : P -> R) : P /\ Q /\ R := ⟨p, q p, r p⟩
theorem parts : ∃ (g : GalT) (mlo mhi : MrgT), (∀ i, mergeAt' i = mergeAtG g mlo mhi i) /\ GalSpec g /\ MrgSpec mlo /\ MrgSpec mhi := by
 refine ⟨?g, ?lo, ?hi, fun i => ?d, and3 ?a ?b ?c⟩
 case d =>
  unfold mergeAtG
  refine congr (congrArg Bind.bind ?_) (funext fun s => ?_)
  ·rfl
  ·show _ = match (pendingOf s)[i]?, (pendingOf s)[i + 1]? with | some (sa, na, power), some (sb, nb, _) => _ | _, _ => _
   generalize hp1 : (pendingOf s)[i]? = p1
   generalize hp2 : (pendingOf s)[i + 1]? = p2
   rcases p1 with _ | ⟨sa, na, pw⟩
   ·rcases p2 with _ | ⟨sb, nb, _⟩ <;> rfl
   ·rcases p2 with _ | ⟨sb, nb, _⟩
    ·rfl
    ·refine congr (congrArg Bind.bind ?_) (funext fun _ => ?_)
     ·rfl
     ·refine congr (congrArg Bind.bind ?_) (funext fun x => ?_)
      ·rfl
      ·refine congr (congrArg Bind.bind ?_) (funext fun r => ?_)
       ·exact rfl
       ·cases r with
        | none => rfl
        | some k =>
         show ite _ _ _ = ite _ _ _
         refine congrArg (ite _ _) ?_
         refine congr (congrArg Bind.bind ?_) (funext fun y => ?_)
         ·rfl
         ·refine congr (congrArg Bind.bind ?_) (funext fun r => ?_)
          ·exact rfl
          ·cases r with
           | none => rfl
           | some m =>
            show ite _ _ _ = ite _ _ _
            refine congrArg (ite _ _) ?_
            show ite _ _ _ = ite _ _ _
            refine congr (congrArg (ite _) ?_) ?_
            ·refine congr (congrArg Bind.bind ?_) (funext fun y => ?_)
             ·exact rfl
             ·rfl
            ·refine congr (congrArg Bind.bind ?_) (funext fun y => ?_)
             ·exact rfl
             ·rfl
 case a =>
  intro left key arr base n hint
  unfold galM
  refine congr (congrArg Bind.bind ?_) (funext fun r => ?_)
  ·rfl
  ·cases r with
   | none => rfl
   | some right =>
    show ite _ _ _ = ite _ _ _
    refine congr (congrArg (ite _) ?_) ?_
    ·refine congr (congrArg Bind.bind ?_) (funext fun r => ?_)
     ·rfl
     ·obtain ⟨r1, r2, r3⟩ := r
      cases r1 with
      | some r => rfl
      | none =>
       unfold bisM
       refine congr (congrArg Bind.bind ?_) (funext fun r => ?_)
       ·rfl
       ·obtain ⟨r1, r2, r3⟩ := r
        cases r1 <;> rfl
    ·refine congr (congrArg Bind.bind ?_) (funext fun r => ?_)
     ·rfl
     ·obtain ⟨r1, r2, r3⟩ := r
      cases r1 with
      | some r => rfl
      | none =>
       unfold bisM
       refine congr (congrArg Bind.bind ?_) (funext fun r => ?_)
       ·rfl
       ·obtain ⟨r1, r2, r3⟩ := r
        cases r1 <;> rfl
 case b =>
  intro hg prog w A E s a₀ κ kd c st hk a b ha hb sa sb a1 b1 h0 h9 Q q
  have pa := seg_pair sa
  have pb := seg_pair sb
  have pad : ∀ i, (a.toList.drop i).Pairwise (Rk κ) := fun i => pa.sublist (List.drop_sublist i _)
  have pbd : ∀ i, (b.toList.drop i).Pairwise (Rk κ) := fun i => pb.sublist (List.drop_sublist i _)
  have dnB : ∀ out ia ib, MS (Rk κ) (a.toList ++ b.toList) out.toList (a.toList.drop ia) (b.toList.drop ib) -> ib = b.size -> GoodM (Rk κ) (a.toList ++ b.toList) (out ++ a.extract ia ++ b.extract ib).toList := fun out ia ib j e => by
   rw [e, show b.toList.drop b.size = [] by simp] at j
   rw [Array.toList_append, Array.toList_append, ex_all, ex_all, e, show b.toList.drop b.size = [] by simp, List.append_nil]
   exact j.finA (pad _)
  have dnA : ∀ out ia ib, MS (Rk κ) (a.toList ++ b.toList) out.toList (a.toList.drop ia) (b.toList.drop ib) -> ia = a.size -> GoodM (Rk κ) (a.toList ++ b.toList) (out ++ a.extract ia ++ b.extract ib).toList := fun out ia ib j e => by
   rw [e, show a.toList.drop a.size = [] by simp] at j
   rw [Array.toList_append, Array.toList_append, ex_all, ex_all, e, show a.toList.drop a.size = [] by simp, List.append_nil]
   exact j.finB (pbd _)
  have lst : ∀ out ia ib, MS (Rk κ) (a.toList ++ b.toList) out.toList (a.toList.drop ia) (b.toList.drop ib) -> ia + 1 = a.size -> GoodM (Rk κ) (a.toList ++ b.toList) (out ++ b.extract ib ++ a.extract ia).toList := fun out ia ib j e => by
   rw [Array.toList_append, Array.toList_append, ex_all, ex_all]
   refine j.finBA (pad _) (pbd _) fun y hy x hx => ?_
   obtain ⟨i, i1, i2, e1⟩ := mem_dropA (κ := κ) hy
   obtain ⟨k, k1, k2, e2⟩ := mem_dropA (κ := κ) hx
   show κ.kle _ _
   rw [<- e1, <- e2, show k = a.size - 1 by omega]
   exact KeyOrd.kle_trans (sb _ _ (Nat.zero_le _) (by omega) (by omega)) (KeyOrd.kle_of_klt h9)
  have stpB : ∀ (out : Array Keyed) ia ib (h : ib < b.size), MS (Rk κ) (a.toList ++ b.toList) out.toList (a.toList.drop ia) (b.toList.drop ib) -> (∀ i, ia <= i -> i < a.size -> κ.klt (ky κ b[ib]) (KK κ a i)) -> MS (Rk κ) (a.toList ++ b.toList) (out.push b[ib]).toList (a.toList.drop ia) (b.toList.drop (ib + 1)) := fun out ia ib h j f => by
   rw [drop_at h] at j
   rw [Array.toList_push]
   refine j.chB (by rw [<- drop_at h]; exact pbd _) fun x hx y hy => ?_
   rw [List.mem_singleton.mp hx]
   obtain ⟨k, k1, k2, e2⟩ := mem_dropA (κ := κ) hy
   show κ.kle _ _
   rw [<- e2]; exact KeyOrd.kle_of_klt (f k k1 k2)
  have stpA : ∀ (out : Array Keyed) ia ib (h : ia < a.size), MS (Rk κ) (a.toList ++ b.toList) out.toList (a.toList.drop ia) (b.toList.drop ib) -> (∀ i, ib <= i -> i < b.size -> κ.kle (ky κ a[ia]) (KK κ b i)) -> MS (Rk κ) (a.toList ++ b.toList) (out.push a[ia]).toList (a.toList.drop (ia + 1)) (b.toList.drop ib) := fun out ia ib h j f => by
   rw [drop_at h] at j
   rw [Array.toList_push]
   refine j.chA (by rw [<- drop_at h]; exact pad _) fun x hx y hy => ?_
   rw [List.mem_singleton.mp hx]
   obtain ⟨k, k1, k2, e2⟩ := mem_dropA (κ := κ) hy
   show κ.kle _ _
   rw [<- e2]; exact f k k1 k2
  have chA : ∀ (out : Array Keyed) ia ib k (h : ib < b.size), MS (Rk κ) (a.toList ++ b.toList) out.toList (a.toList.drop ia) (b.toList.drop ib) -> (∀ i, i < k -> κ.kle (KK κ a (ia + i)) (ky κ b[ib])) -> MS (Rk κ) (a.toList ++ b.toList) (out ++ a.extract ia (ia + k)).toList (a.toList.drop (ia + k)) (b.toList.drop ib) := fun out ia ib k h j f => by
   rw [drop_take (l := a.toList) ia k] at j
   rw [Array.toList_append, ex_some]
   refine j.chA (by rw [<- drop_take]; exact pad _) fun x hx y hy => ?_
   obtain ⟨i, i1, i2, e1⟩ := mem_chunk (κ := κ) hx
   obtain ⟨m, m1, m2, e2⟩ := mem_dropA (κ := κ) hy
   show κ.kle _ _
   rw [<- e1, <- e2]
   refine KeyOrd.kle_trans (f i i1) ?_
   rw [<- KK_ky (Array.getElem?_eq_getElem h)]
   exact sb _ _ (Nat.zero_le _) m1 m2
  have chB : ∀ (out : Array Keyed) ia ib k (h : ia < a.size), MS (Rk κ) (a.toList ++ b.toList) out.toList (a.toList.drop ia) (b.toList.drop ib) -> (∀ i, i < k -> κ.klt (KK κ b (ib + i)) (ky κ a[ia])) -> MS (Rk κ) (a.toList ++ b.toList) (out ++ b.extract ib (ib + k)).toList (a.toList.drop ia) (b.toList.drop (ib + k)) := fun out ia ib k h j f => by
   rw [drop_take (l := b.toList) ib k] at j
   rw [Array.toList_append, ex_some]
   refine j.chB (by rw [<- drop_take]; exact pbd _) fun x hx y hy => ?_
   obtain ⟨i, i1, i2, e1⟩ := mem_chunk (κ := κ) hx
   obtain ⟨m, m1, m2, e2⟩ := mem_dropA (κ := κ) hy
   show κ.kle _ _
   rw [<- e1, <- e2]
   refine KeyOrd.kle_trans (KeyOrd.kle_of_klt (f i i1)) ?_
   rw [<- KK_ky (Array.getElem?_eq_getElem h)]
   exact sa _ _ (Nat.zero_le _) m1 m2
  have j0 : MS (Rk κ) (a.toList ++ b.toList) (#[b[0]] : Array Keyed).toList (a.toList.drop 0) (b.toList.drop 1) := by
   have := stpB #[] 0 0 b1 (by simpa using ms0) fun i _ h => by
    rw [<- KK_ky (Array.getElem?_eq_getElem b1)]
    exact KeyOrd.klt_of_klt_of_kle h0 (sa _ _ (Nat.zero_le _) (Nat.zero_le _) h)
   simpa using this
  refine wpS_bind (wpS_lift (wpAny_rule ⟨rfl, ?_⟩))
  refine wpS_bind (wp_elem b1 ?_)
  refine wp_ite (fun e => wpS_pure (q _ _ (.refl _) (dnB _ _ _ j0 (by simpa using e)))) fun e1 => ?_
  refine wp_ite (fun e => wpS_pure (q _ _ (.refl _) (lst _ _ _ j0 (by simpa using e)))) fun e2 => ?_
  have e1 : 1 ≠ b.size := by simpa using e1
  have e2 : 0 + 1 ≠ a.size := by simpa using e2
  refine wpS_bind (wpS_get ?_)
  refine wpS_bind (wp_range 0 (a.size + b.size) _ _ (fun r t st' => t.1 = none /\ St st st' /\ MS (Rk κ) (a.toList ++ b.toList) t.2.1.toList (a.toList.drop t.2.2.1) (b.toList.drop t.2.2.2.1) /\ t.2.2.1 + 1 < a.size /\ t.2.2.2.1 < b.size /\ a.size + b.size <= t.2.2.1 + t.2.2.2.1 + r) _ ⟨rfl, .refl _, j0, by dsimp only; omega, by dsimp only; omega, by dsimp only; omega⟩ ?_ ?_)
  ·rintro _ r ⟨o, out0, ia0, ib0, mg⟩ st1 _ _ _ ⟨ho, ss1, j1, l1, l2, l3⟩
   simp only at ho j1 l1 l2 l3
   subst ho
   refine wpS_bind (wpS_mono (Q := fun t st' => St st st' /\ ((∃ m, t.1 = some m /\ GoodM (Rk κ) (a.toList ++ b.toList) m.toList) \/ (t.1 = none /\ MS (Rk κ) (a.toList ++ b.toList) t.2.1.toList (a.toList.drop t.2.2.1) (b.toList.drop t.2.2.2.1) /\ t.2.2.1 + 1 < a.size /\ t.2.2.2.1 < b.size /\ ia0 + ib0 + 1 <= t.2.2.1 + t.2.2.2.1))) (wp_range 0 (a.size + b.size) _ _ (fun r t st' => t.1 = none /\ St st st' /\ MS (Rk κ) (a.toList ++ b.toList) t.2.1.toList (a.toList.drop t.2.2.1) (b.toList.drop t.2.2.2.1) /\ t.2.2.1 + 1 < a.size /\ t.2.2.2.1 < b.size /\ ia0 + ib0 + (a.size + b.size) <= t.2.2.1 + t.2.2.2.1 + r /\ ia0 + ib0 <= t.2.2.1 + t.2.2.2.1) _ ⟨rfl, ss1, j1, l1, l2, by dsimp only; omega, by dsimp only; omega⟩ ?_ ?_) ?_)
   ·rintro _ r ⟨o, out, ia, ib, ac, bc⟩ st2 _ _ _ ⟨ho, ss, j, l1, l2, l3, l4⟩
    simp only at ho j l1 l2 l3 l4
    subst ho
    have hia : ia < a.size := by omega
    refine wpS_bind (wp_elem l2 ?_)
    refine wpS_bind (wp_elem hia ?_)
    refine wpS_bind (c _ _ (hb _ (by simp)) (ha _ (by simp)) _ _ (ss.kind.trans hk) ?_)
    cases hv : κ.blt (ky κ b[ib]) (ky κ a[ia]) with
    | true =>
     refine wpS_bind (wp_elem l2 ?_)
     have j' := stpB out ia ib l2 j fun i i1 i2 => KeyOrd.klt_of_klt_of_kle hv (by
      rw [<- KK_ky (Array.getElem?_eq_getElem hia)]
      exact sa _ _ (Nat.zero_le _) i1 i2)
     refine wp_ite (fun e => wpS_pure ⟨ss, .inl ⟨_, rfl, dnB _ _ _ j' (by simpa using e)⟩⟩) fun e => ?_
     have e : ib + 1 ≠ b.size := by simpa using e
     refine wp_ite (fun _ => wpS_pure ⟨ss, .inr ⟨rfl, j', l1, by dsimp only; omega, by dsimp only; omega⟩⟩) fun _ => wpS_pure ⟨rfl, ss, j', l1, by dsimp only; omega, by dsimp only; omega, by dsimp only; omega⟩
    | false =>
     refine wpS_bind (wp_elem hia ?_)
     have j' := stpA out ia ib hia j fun i i1 i2 => KeyOrd.kle_trans hv (by
      rw [<- KK_ky (Array.getElem?_eq_getElem l2)]
      exact sb _ _ (Nat.zero_le _) i1 i2)
     refine wp_ite (fun e => wpS_pure ⟨ss, .inl ⟨_, rfl, lst _ _ _ j' (by simpa using e)⟩⟩) fun e => ?_
     have e : ia + 1 + 1 ≠ a.size := by simpa using e
     refine wp_ite (fun _ => wpS_pure ⟨ss, .inr ⟨rfl, j', by dsimp only; omega, l2, by dsimp only; omega⟩⟩) fun _ => wpS_pure ⟨rfl, ss, j', by dsimp only; omega, l2, by dsimp only; omega, by dsimp only; omega⟩
   ·rintro ⟨o, out, ia, ib, ac, bc⟩ st2 ⟨ho, ss, j, l1, l2, l3, l4⟩
    exact ⟨ss, .inr ⟨ho, j, l1, l2, by dsimp only at l3 ⊢; omega⟩⟩
   ·rintro ⟨o, out1, ia1, ib1, ac, bc⟩ st2 ⟨ss2, hh⟩
    rcases hh with ⟨m, ho, gm⟩ | ⟨ho, j2, l5, l6, l7⟩
    ·simp only at ho; subst ho
     exact wpS_pure (wpS_pure (q _ _ ss2 gm))
    ·simp only at ho j2 l5 l6 l7; subst ho
     refine wpS_bind (wpS_lift (wpAny_rule ⟨rfl, ?_⟩))
     refine wpS_bind (wpS_mono (Q := fun t st' => St st st' /\ ((∃ m, t.1 = some m /\ GoodM (Rk κ) (a.toList ++ b.toList) m.toList) \/ (t.1 = none /\ MS (Rk κ) (a.toList ++ b.toList) t.2.1.toList (a.toList.drop t.2.2.1) (b.toList.drop t.2.2.2.1) /\ t.2.2.1 + 1 < a.size /\ t.2.2.2.1 < b.size /\ ia0 + ib0 + 1 <= t.2.2.1 + t.2.2.2.1))) (wp_range 0 (a.size + b.size) _ _ (fun r t st' => t.1 = none /\ St st st' /\ MS (Rk κ) (a.toList ++ b.toList) t.2.1.toList (a.toList.drop t.2.2.1) (b.toList.drop t.2.2.2.1) /\ t.2.2.1 + 1 < a.size /\ t.2.2.2.1 < b.size /\ ia0 + ib0 + 1 <= t.2.2.1 + t.2.2.2.1) _ ⟨rfl, ss2, j2, l5, l6, l7⟩ ?_ ?_) ?_)
     ·rintro _ r ⟨o, out, ia, ib, mg, ac, bc⟩ st3 _ _ _ ⟨ho, ss, j, l1, l2, l4⟩
      simp only at ho j l1 l2 l4
      subst ho
      refine wp_ite (fun _ => ?_) (fun _ => ?_)
      all_goals
       refine wpS_bind (wpS_modify ?_)
       refine wpS_bind (wp_elem l2 ?_)
       refine wpS_bind (wp_galF (base := ia) (n := a.size - ia) (hint := 0) hg c (by exact ss.kind.trans hk) (hb _ (Array.getElem_mem_toList l2)) ha (by omega) (fun i j i1 i2 i3 => sa i j (Nat.zero_le _) i2 (by omega)) (by omega) fun k k1 k2 k3 => ?_)
       have jA := chA _ _ _ k l2 j k2
       refine wp_ite (fun hp => ?_) (fun hn => ?_)
       ·refine wp_ite (fun e => wpS_pure ⟨⟨ss.arr, ss.kind, ss.pend, ss.failed⟩, .inl ⟨_, rfl, lst _ _ _ jA (by simpa using e)⟩⟩) fun e1 => ?_
        refine wp_ite (fun e => wpS_pure ⟨⟨ss.arr, ss.kind, ss.pend, ss.failed⟩, .inl ⟨_, rfl, dnA _ _ _ jA (by simpa using e)⟩⟩) fun e2 => ?_
        have e1 : ia + k + 1 ≠ a.size := by simpa using e1
        have e2 : ia + k ≠ a.size := by simpa using e2
        have hia' : ia + k < a.size := by omega
        have jx := jA
        have fx := fun i (i1 : ia + k <= i) (i2 : i < a.size) => by
         have := k3 (i - ia) (by omega) (by omega)
         rwa [show ia + (i - ia) = i by omega] at this
        refine wpS_bind (wp_elem l2 ?_)
        have jy := stpB _ _ _ l2 jx fx
        refine wp_ite (fun e => wpS_pure ⟨⟨ss.arr, ss.kind, ss.pend, ss.failed⟩, .inl ⟨_, rfl, dnB _ _ _ jy (by simpa using e)⟩⟩) fun e => ?_
        have e : ib + 1 ≠ b.size := by simpa using e
        refine wpS_bind (wp_elem hia' ?_)
        refine wpS_bind (wp_galT (base := ib + 1) (n := b.size - (ib + 1)) (hint := 0) hg c (by exact ss.kind.trans hk) (ha _ (Array.getElem_mem_toList hia')) hb (by omega) (fun i j i1 i2 i3 => sb i j (Nat.zero_le _) i2 (by omega)) (by omega) fun k' m1 m2 m3 => ?_)
        have jB := chB _ _ _ k' hia' jy m2
        refine wp_ite (fun hp => ?_) (fun hn => ?_)
        ·refine wp_ite (fun e => wpS_pure ⟨⟨ss.arr, ss.kind, ss.pend, ss.failed⟩, .inl ⟨_, rfl, dnB _ _ _ jB (by simpa using e)⟩⟩) fun e => ?_
         have e : ib + 1 + k' ≠ b.size := by simpa using e
         have jz := jB
         have fz := fun i (i1 : ib + 1 + k' <= i) (i2 : i < b.size) => by
          have := m3 (i - (ib + 1)) (by omega) (by omega)
          rwa [show ib + 1 + (i - (ib + 1)) = i by omega] at this
         refine wpS_bind (wp_elem hia' ?_)
         have jw := stpA _ _ _ hia' jz fz
         refine wp_ite (fun e => wpS_pure ⟨⟨ss.arr, ss.kind, ss.pend, ss.failed⟩, .inl ⟨_, rfl, lst _ _ _ jw (by simpa using e)⟩⟩) fun e => ?_
         have e : ¬ (_ : Nat) = a.size := fun h => e (beq_iff_eq.mpr h)
         try dsimp only at e
         refine wp_ite (fun _ => wpS_pure ⟨⟨ss.arr, ss.kind, ss.pend, ss.failed⟩, .inr ⟨rfl, jw, by dsimp only; omega, by dsimp only; omega, by dsimp only; omega⟩⟩) fun _ => wpS_pure ⟨rfl, ⟨ss.arr, ss.kind, ss.pend, ss.failed⟩, jw, by dsimp only; omega, by dsimp only; omega, by dsimp only; omega⟩
        ·have jz := jy
         have fz := fun i (i1 : ib + 1 <= i) (i2 : i < b.size) => by
          have := m3 (i - (ib + 1)) (by omega) (by omega)
          rwa [show ib + 1 + (i - (ib + 1)) = i by omega] at this
         refine wpS_bind (wp_elem hia' ?_)
         have jw := stpA _ _ _ hia' jz fz
         refine wp_ite (fun e => wpS_pure ⟨⟨ss.arr, ss.kind, ss.pend, ss.failed⟩, .inl ⟨_, rfl, lst _ _ _ jw (by simpa using e)⟩⟩) fun e => ?_
         have e : ¬ (_ : Nat) = a.size := fun h => e (beq_iff_eq.mpr h)
         try dsimp only at e
         refine wp_ite (fun _ => wpS_pure ⟨⟨ss.arr, ss.kind, ss.pend, ss.failed⟩, .inr ⟨rfl, jw, by dsimp only; omega, by dsimp only; omega, by dsimp only; omega⟩⟩) fun _ => wpS_pure ⟨rfl, ⟨ss.arr, ss.kind, ss.pend, ss.failed⟩, jw, by dsimp only; omega, by dsimp only; omega, by dsimp only; omega⟩
       ·have hia' : ia < a.size := by omega
        have jx := j
        have fx := fun i (i1 : ia <= i) (i2 : i < a.size) => by
         have := k3 (i - ia) (by omega) (by omega)
         rwa [show ia + (i - ia) = i by omega] at this
        refine wpS_bind (wp_elem l2 ?_)
        have jy := stpB _ _ _ l2 jx fx
        refine wp_ite (fun e => wpS_pure ⟨⟨ss.arr, ss.kind, ss.pend, ss.failed⟩, .inl ⟨_, rfl, dnB _ _ _ jy (by simpa using e)⟩⟩) fun e => ?_
        have e : ib + 1 ≠ b.size := by simpa using e
        refine wpS_bind (wp_elem hia' ?_)
        refine wpS_bind (wp_galT (base := ib + 1) (n := b.size - (ib + 1)) (hint := 0) hg c (by exact ss.kind.trans hk) (ha _ (Array.getElem_mem_toList hia')) hb (by omega) (fun i j i1 i2 i3 => sb i j (Nat.zero_le _) i2 (by omega)) (by omega) fun k' m1 m2 m3 => ?_)
        have jB := chB _ _ _ k' hia' jy m2
        refine wp_ite (fun hp => ?_) (fun hn => ?_)
        ·refine wp_ite (fun e => wpS_pure ⟨⟨ss.arr, ss.kind, ss.pend, ss.failed⟩, .inl ⟨_, rfl, dnB _ _ _ jB (by simpa using e)⟩⟩) fun e => ?_
         have e : ib + 1 + k' ≠ b.size := by simpa using e
         have jz := jB
         have fz := fun i (i1 : ib + 1 + k' <= i) (i2 : i < b.size) => by
          have := m3 (i - (ib + 1)) (by omega) (by omega)
          rwa [show ib + 1 + (i - (ib + 1)) = i by omega] at this
         refine wpS_bind (wp_elem hia' ?_)
         have jw := stpA _ _ _ hia' jz fz
         refine wp_ite (fun e => wpS_pure ⟨⟨ss.arr, ss.kind, ss.pend, ss.failed⟩, .inl ⟨_, rfl, lst _ _ _ jw (by simpa using e)⟩⟩) fun e => ?_
         have e : ¬ (_ : Nat) = a.size := fun h => e (beq_iff_eq.mpr h)
         try dsimp only at e
         refine wp_ite (fun _ => wpS_pure ⟨⟨ss.arr, ss.kind, ss.pend, ss.failed⟩, .inr ⟨rfl, jw, by dsimp only; omega, by dsimp only; omega, by dsimp only; omega⟩⟩) fun _ => wpS_pure ⟨rfl, ⟨ss.arr, ss.kind, ss.pend, ss.failed⟩, jw, by dsimp only; omega, by dsimp only; omega, by dsimp only; omega⟩
        ·have jz := jy
         have fz := fun i (i1 : ib + 1 <= i) (i2 : i < b.size) => by
          have := m3 (i - (ib + 1)) (by omega) (by omega)
          rwa [show ib + 1 + (i - (ib + 1)) = i by omega] at this
         refine wpS_bind (wp_elem hia' ?_)
         have jw := stpA _ _ _ hia' jz fz
         refine wp_ite (fun e => wpS_pure ⟨⟨ss.arr, ss.kind, ss.pend, ss.failed⟩, .inl ⟨_, rfl, lst _ _ _ jw (by simpa using e)⟩⟩) fun e => ?_
         have e : ¬ (_ : Nat) = a.size := fun h => e (beq_iff_eq.mpr h)
         try dsimp only at e
         refine wp_ite (fun _ => wpS_pure ⟨⟨ss.arr, ss.kind, ss.pend, ss.failed⟩, .inr ⟨rfl, jw, by dsimp only; omega, by dsimp only; omega, by dsimp only; omega⟩⟩) fun _ => wpS_pure ⟨rfl, ⟨ss.arr, ss.kind, ss.pend, ss.failed⟩, jw, by dsimp only; omega, by dsimp only; omega, by dsimp only; omega⟩
     ·rintro ⟨o, out, ia, ib, mg, ac, bc⟩ st3 ⟨ho, ss, j, l1, l2, l4⟩
      exact ⟨ss, .inr ⟨ho, j, l1, l2, l4⟩⟩
     ·rintro ⟨o, out, ia, ib, mg, ac, bc⟩ st3 ⟨ss, hh⟩
      rcases hh with ⟨m, ho, gm⟩ | ⟨ho, j, l8, l9, l10⟩
      ·simp only at ho; subst ho
       exact wpS_pure (wpS_pure (q _ _ ss gm))
      ·simp only at ho j l8 l9 l10; subst ho
       refine wpS_bind (wpS_modify (wpS_pure ⟨rfl, ⟨ss.arr, ss.kind, ss.pend, ss.failed⟩, j, l8, l9, by dsimp only; omega⟩))
  ·rintro ⟨o, out, ia, ib, mg⟩ st' ⟨ho, ss, j, l1, l2, l3⟩
   simp only at l1 l2 l3
   omega
 case c =>
  intro hg prog w A E s a₀ κ kd c st hk a b ha hb sa sb a1 b1 h0 h9 Q q
  have pa := seg_pair sa
  have pb := seg_pair sb
  have pad : ∀ i, ((a.toList.take i).reverse).Pairwise (Rr κ) := fun i => List.pairwise_reverse.mpr (pa.sublist (List.take_sublist i _))
  have pbd : ∀ i, ((b.toList.take i).reverse).Pairwise (Rr κ) := fun i => List.pairwise_reverse.mpr (pb.sublist (List.take_sublist i _))
  have dnA : ∀ (out : Array Keyed) na nb, MS (Rr κ) (a.toList ++ b.toList) out.toList (a.toList.take na).reverse (b.toList.take nb).reverse -> na = 0 -> GoodM (Rk κ) (a.toList ++ b.toList) (a.extract 0 na ++ b.extract 0 nb ++ out.reverse).toList := fun out na nb j e => goodRev (by
   subst e
   have := j.finB (by simpa using pbd nb)
   simpa using this)
  have dnB : ∀ (out : Array Keyed) na nb, MS (Rr κ) (a.toList ++ b.toList) out.toList (a.toList.take na).reverse (b.toList.take nb).reverse -> nb = 0 -> GoodM (Rk κ) (a.toList ++ b.toList) (a.extract 0 na ++ b.extract 0 nb ++ out.reverse).toList := fun out na nb j e => goodRev (by
   subst e
   have := MS.finA (by simpa using j) (pad na)
   simpa using this)
  have lst : ∀ (out : Array Keyed) na nb, MS (Rr κ) (a.toList ++ b.toList) out.toList (a.toList.take na).reverse (b.toList.take nb).reverse -> nb = 1 -> GoodM (Rk κ) (a.toList ++ b.toList) (b.extract 0 nb ++ a.extract 0 na ++ out.reverse).toList := fun out na nb j e => goodRev (by
   subst e
   have := j.finAB (pad na) (pbd 1) fun x hx y hy => by
    obtain ⟨i, i1, i2, e1⟩ := mem_takeA (κ := κ) hx
    obtain ⟨m, m1, m2, e2⟩ := mem_takeA (κ := κ) hy
    show κ.kle _ _
    rw [<- e1, <- e2, show m = 0 by omega]
    exact KeyOrd.kle_trans (KeyOrd.kle_of_klt h0) (sa _ _ (Nat.zero_le _) (Nat.zero_le _) i2)
   simpa using this)
  have stpA : ∀ (out : Array Keyed) na nb (h : na < a.size), MS (Rr κ) (a.toList ++ b.toList) out.toList (a.toList.take (na + 1)).reverse (b.toList.take nb).reverse -> (∀ i, i < nb -> i < b.size -> κ.kle (KK κ b i) (ky κ a[na])) -> MS (Rr κ) (a.toList ++ b.toList) (out.push a[na]).toList (a.toList.take na).reverse (b.toList.take nb).reverse := fun out na nb h j f => by
   rw [take_at h] at j
   rw [Array.toList_push]
   refine j.chA (by rw [<- take_at h]; exact pad _) fun x hx y hy => ?_
   rw [List.mem_singleton.mp hx]
   obtain ⟨k, k1, k2, e2⟩ := mem_takeA (κ := κ) hy
   show κ.kle _ _
   rw [<- e2]; exact f k k1 k2
  have stpB : ∀ (out : Array Keyed) na nb (h : nb < b.size), MS (Rr κ) (a.toList ++ b.toList) out.toList (a.toList.take na).reverse (b.toList.take (nb + 1)).reverse -> (∀ i, i < na -> i < a.size -> κ.kle (KK κ a i) (ky κ b[nb])) -> MS (Rr κ) (a.toList ++ b.toList) (out.push b[nb]).toList (a.toList.take na).reverse (b.toList.take nb).reverse := fun out na nb h j f => by
   rw [take_at h] at j
   rw [Array.toList_push]
   refine j.chB (by rw [<- take_at h]; exact pbd _) fun x hx y hy => ?_
   rw [List.mem_singleton.mp hx]
   obtain ⟨k, k1, k2, e2⟩ := mem_takeA (κ := κ) hy
   show κ.kle _ _
   rw [<- e2]; exact f k k1 k2
  have chA : ∀ (out : Array Keyed) na nb k (hk : k <= na) (h : nb - 1 < b.size) (h' : na <= a.size), MS (Rr κ) (a.toList ++ b.toList) out.toList (a.toList.take na).reverse (b.toList.take nb).reverse -> (∀ i, k <= i -> i < na -> κ.klt (ky κ b[nb - 1]) (KK κ a i)) -> MS (Rr κ) (a.toList ++ b.toList) (out ++ (a.extract k na).reverse).toList (a.toList.take k).reverse (b.toList.take nb).reverse := fun out na nb k hk h h' j f => by
   rw [take_ch (l := a.toList) hk] at j
   rw [Array.toList_append, ex_mid]
   refine j.chA (by rw [<- take_ch hk]; exact pad _) fun x hx y hy => ?_
   obtain ⟨i, i1, i2, e1⟩ := mem_chunk (κ := κ) (List.mem_reverse.mp hx)
   obtain ⟨m, m1, m2, e2⟩ := mem_takeA (κ := κ) hy
   show κ.kle _ _
   rw [<- e1, <- e2]
   refine KeyOrd.kle_trans ?_ (KeyOrd.kle_of_klt (f (k + i) (by omega) (by omega)))
   rw [<- KK_ky (Array.getElem?_eq_getElem h)]
   exact sb _ _ (Nat.zero_le _) (by omega) h
  have chB : ∀ (out : Array Keyed) na nb k (hk : k <= nb) (h : na - 1 < a.size) (h' : nb <= b.size), MS (Rr κ) (a.toList ++ b.toList) out.toList (a.toList.take na).reverse (b.toList.take nb).reverse -> (∀ i, k <= i -> i < nb -> κ.kle (ky κ a[na - 1]) (KK κ b i)) -> MS (Rr κ) (a.toList ++ b.toList) (out ++ (b.extract k nb).reverse).toList (a.toList.take na).reverse (b.toList.take k).reverse := fun out na nb k hk h h' j f => by
   rw [take_ch (l := b.toList) hk] at j
   rw [Array.toList_append, ex_mid]
   refine j.chB (by rw [<- take_ch hk]; exact pbd _) fun x hx y hy => ?_
   obtain ⟨i, i1, i2, e1⟩ := mem_chunk (κ := κ) (List.mem_reverse.mp hx)
   obtain ⟨m, m1, m2, e2⟩ := mem_takeA (κ := κ) hy
   show κ.kle _ _
   rw [<- e1, <- e2]
   refine KeyOrd.kle_trans ?_ (f (k + i) (by omega) (by omega))
   rw [<- KK_ky (Array.getElem?_eq_getElem h)]
   exact sa _ _ (Nat.zero_le _) (by omega) h
  have hl : a.size - 1 < a.size := by omega
  have j0 : MS (Rr κ) (a.toList ++ b.toList) (#[a[a.size - 1]] : Array Keyed).toList (a.toList.take (a.size - 1)).reverse (b.toList.take b.size).reverse := by
   have := stpA #[] (a.size - 1) b.size hl (by
    rw [show a.size - 1 + 1 = a.size by omega]
    have : MS (Rr κ) (a.toList ++ b.toList) [] a.toList.reverse b.toList.reverse := ⟨((List.reverse_perm _).append (List.reverse_perm _)), .nil, fun x h => absurd h (by simp), fun x h => absurd h (by simp)⟩
    rw [List.take_of_length_le (l := a.toList) (by simp), List.take_of_length_le (l := b.toList) (by simp)]
    exact this) fun i _ h => by
    rw [<- KK_ky (Array.getElem?_eq_getElem hl)]
    exact KeyOrd.kle_trans (sb _ _ (Nat.zero_le _) (by omega) (by omega)) (KeyOrd.kle_of_klt h9)
   simpa using this
  refine wpS_bind (wpS_lift (wpAny_rule ⟨rfl, ?_⟩))
  refine wpS_bind (wp_elem hl ?_)
  refine wp_ite (fun e => wpS_pure (q _ _ (.refl _) (dnA _ _ _ j0 (by simpa using e)))) fun e1 => ?_
  refine wp_ite (fun e => wpS_pure (q _ _ (.refl _) (lst _ _ _ j0 (by simpa using e)))) fun e2 => ?_
  have e1 : a.size - 1 ≠ 0 := by simpa using e1
  have e2 : b.size ≠ 1 := by simpa using e2
  refine wpS_bind (wpS_get ?_)
  refine wpS_bind (wp_range 0 (a.size + b.size) _ _ (fun r t st' => t.1 = none /\ St st st' /\ MS (Rr κ) (a.toList ++ b.toList) t.2.2.2.1.toList (a.toList.take t.2.1).reverse (b.toList.take t.2.2.1).reverse /\ (0 < t.2.1 /\ t.2.1 <= a.size) /\ (1 < t.2.2.1 /\ t.2.2.1 <= b.size) /\ t.2.1 + t.2.2.1 <= r) _ ⟨rfl, .refl _, j0, by dsimp only; omega, by dsimp only; omega, by dsimp only; omega⟩ ?_ ?_)
  ·rintro _ r ⟨o, na0, nb0, out0, mg⟩ st1 _ _ _ ⟨ho, ss1, j1, l1, l2, l3⟩
   simp only at ho j1 l1 l2 l3
   subst ho
   refine wpS_bind (wpS_mono (Q := fun t st' => St st st' /\ ((∃ m, t.1 = some m /\ GoodM (Rk κ) (a.toList ++ b.toList) m.toList) \/ (t.1 = none /\ MS (Rr κ) (a.toList ++ b.toList) t.2.2.2.1.toList (a.toList.take t.2.1).reverse (b.toList.take t.2.2.1).reverse /\ (0 < t.2.1 /\ t.2.1 <= a.size) /\ (1 < t.2.2.1 /\ t.2.2.1 <= b.size) /\ t.2.1 + t.2.2.1 + 1 <= na0 + nb0))) (wp_range 0 (a.size + b.size) _ _ (fun r t st' => t.1 = none /\ St st st' /\ MS (Rr κ) (a.toList ++ b.toList) t.2.2.2.1.toList (a.toList.take t.2.1).reverse (b.toList.take t.2.2.1).reverse /\ (0 < t.2.1 /\ t.2.1 <= a.size) /\ (1 < t.2.2.1 /\ t.2.2.1 <= b.size) /\ t.2.1 + t.2.2.1 + (a.size + b.size) <= na0 + nb0 + r /\ t.2.1 + t.2.2.1 <= na0 + nb0) _ ⟨rfl, ss1, j1, l1, l2, by dsimp only; omega, by dsimp only; omega⟩ ?_ ?_) ?_)
   ·rintro _ r ⟨o, na, nb, out, ac, bc⟩ st2 _ _ _ ⟨ho, ss, j, l1, l2, l3, l4⟩
    simp only at ho j l1 l2 l3 l4
    subst ho
    obtain ⟨na, rfl⟩ : ∃ n, na = n + 1 := ⟨na - 1, by omega⟩
    obtain ⟨nb, rfl⟩ : ∃ n, nb = n + 1 := ⟨nb - 1, by omega⟩
    have hna : na < a.size := by omega
    have hnb : nb < b.size := by omega
    refine wpS_bind (wp_elem hnb ?_)
    refine wpS_bind (wp_elem hna ?_)
    refine wpS_bind (c _ _ (hb _ (by simp)) (ha _ (by simp)) _ _ (ss.kind.trans hk) ?_)
    cases hv : κ.blt (ky κ b[nb]) (ky κ a[na]) with
    | true =>
     refine wpS_bind (wp_elem hna ?_)
     have j' := stpA out na (nb + 1) hna j fun i i1 i2 => KeyOrd.kle_trans (by
      rw [<- KK_ky (Array.getElem?_eq_getElem hnb)]
      exact sb i nb (Nat.zero_le _) (by omega) hnb) (KeyOrd.kle_of_klt hv)
     refine wp_ite (fun e => wpS_pure ⟨ss, .inl ⟨_, rfl, dnA _ _ _ j' (by simpa using e)⟩⟩) fun e => ?_
     have e : ¬ (_ : Nat) = 0 := fun h => e (beq_iff_eq.mpr h)
     try dsimp only at e
     refine wp_ite (fun _ => wpS_pure ⟨ss, .inr ⟨rfl, j', by dsimp only; omega, l2, by dsimp only; omega⟩⟩) fun _ => wpS_pure ⟨rfl, ss, j', by dsimp only; omega, l2, by dsimp only; omega, by dsimp only; omega⟩
    | false =>
     refine wpS_bind (wp_elem hnb ?_)
     have j' := stpB out (na + 1) nb hnb j fun i i1 i2 => KeyOrd.kle_trans (by
      rw [<- KK_ky (Array.getElem?_eq_getElem hna)]
      exact sa i na (Nat.zero_le _) (by omega) hna) hv
     refine wp_ite (fun e => wpS_pure ⟨ss, .inl ⟨_, rfl, lst _ _ _ j' (by simpa using e)⟩⟩) fun e => ?_
     have e : ¬ (_ : Nat) = 1 := fun h => e (beq_iff_eq.mpr h)
     try dsimp only at e
     refine wp_ite (fun _ => wpS_pure ⟨ss, .inr ⟨rfl, j', l1, by dsimp only; omega, by dsimp only; omega⟩⟩) fun _ => wpS_pure ⟨rfl, ss, j', l1, by dsimp only; omega, by dsimp only; omega, by dsimp only; omega⟩
   ·rintro ⟨o, na, nb, out, ac, bc⟩ st2 ⟨ho, ss, j, l1, l2, l3, l4⟩
    exact ⟨ss, .inr ⟨ho, j, l1, l2, by dsimp only at l3 ⊢; omega⟩⟩
   ·rintro ⟨o, na1, nb1, out1, ac, bc⟩ st2 ⟨ss2, hh⟩
    rcases hh with ⟨m, ho, gm⟩ | ⟨ho, j2, l5, l6, l7⟩
    ·simp only at ho; subst ho
     exact wpS_pure (wpS_pure (q _ _ ss2 gm))
    ·simp only at ho j2 l5 l6 l7; subst ho
     refine wpS_bind (wpS_lift (wpAny_rule ⟨rfl, ?_⟩))
     refine wpS_bind (wpS_mono (Q := fun t st' => St st st' /\ ((∃ m, t.1 = some m /\ GoodM (Rk κ) (a.toList ++ b.toList) m.toList) \/ (t.1 = none /\ MS (Rr κ) (a.toList ++ b.toList) t.2.2.2.1.toList (a.toList.take t.2.1).reverse (b.toList.take t.2.2.1).reverse /\ (0 < t.2.1 /\ t.2.1 <= a.size) /\ (1 < t.2.2.1 /\ t.2.2.1 <= b.size) /\ t.2.1 + t.2.2.1 + 1 <= na0 + nb0))) (wp_range 0 (a.size + b.size) _ _ (fun r t st' => t.1 = none /\ St st st' /\ MS (Rr κ) (a.toList ++ b.toList) t.2.2.2.1.toList (a.toList.take t.2.1).reverse (b.toList.take t.2.2.1).reverse /\ (0 < t.2.1 /\ t.2.1 <= a.size) /\ (1 < t.2.2.1 /\ t.2.2.1 <= b.size) /\ t.2.1 + t.2.2.1 + 1 <= na0 + nb0) _ ⟨rfl, ss2, j2, l5, l6, l7⟩ ?_ ?_) ?_)
     ·rintro _ r ⟨o, na, nb, out, mg, ac, bc⟩ st3 _ _ _ ⟨ho, ss, j, l1, l2, l4⟩
      simp only at ho j l1 l2 l4
      subst ho
      have hnb : nb - 1 < b.size := by omega
      refine wp_ite (fun _ => ?_) (fun _ => ?_)
      all_goals
       refine wpS_bind (wpS_modify ?_)
       refine wpS_bind (wp_elem hnb ?_)
       refine wpS_bind (wp_galF (base := 0) (n := na) (hint := na - 1) hg c (by exact ss.kind.trans hk) (hb _ (Array.getElem_mem_toList hnb)) ha (by omega) (fun i j i1 i2 i3 => sa i j (Nat.zero_le _) i2 (by omega)) (by omega) fun k k1 k2 k3 => ?_)
       simp only [Nat.zero_add] at k2 k3
       have jA := chA _ _ _ k k1 hnb (by omega) j k3
       refine wp_ite (fun hp => ?_) (fun hn => ?_)
       ·refine wp_ite (fun e => wpS_pure ⟨⟨ss.arr, ss.kind, ss.pend, ss.failed⟩, .inl ⟨_, rfl, dnA _ _ _ jA (by simpa using e)⟩⟩) fun e1 => ?_
        have e1 : k ≠ 0 := by simpa using e1
        have jx := jA
        have fx := fun i (i1 : i < k) (i2 : i < a.size) => k2 i i1
        obtain ⟨nb, rfl⟩ : ∃ n, nb = n + 1 := ⟨nb - 1, by omega⟩
        have hnb : nb < b.size := by omega
        refine wpS_bind (wp_elem hnb ?_)
        have jy := stpB _ _ _ hnb jx fx
        refine wp_ite (fun e => wpS_pure ⟨⟨ss.arr, ss.kind, ss.pend, ss.failed⟩, .inl ⟨_, rfl, lst _ _ _ jy (by simpa using e)⟩⟩) fun e => ?_
        have e : ¬ (_ : Nat) = 1 := fun h => e (beq_iff_eq.mpr h)
        try dsimp only at e
        have hna1 : k - 1 < a.size := by omega
        refine wpS_bind (wp_elem hna1 ?_)
        refine wpS_bind (wp_galT (base := 0) (n := nb) (hint := nb - 1) hg c (by exact ss.kind.trans hk) (ha _ (Array.getElem_mem_toList hna1)) hb (by omega) (fun i j i1 i2 i3 => sb i j (Nat.zero_le _) i2 (by omega)) (by omega) fun k' m1 m2 m3 => ?_)
        simp only [Nat.zero_add] at m2 m3
        have jB := chB _ _ _ k' m1 hna1 (by omega) jy m3
        refine wp_ite (fun hp => ?_) (fun hn => ?_)
        ·refine wp_ite (fun e => wpS_pure ⟨⟨ss.arr, ss.kind, ss.pend, ss.failed⟩, .inl ⟨_, rfl, lst _ _ _ jB (by simpa using e)⟩⟩) fun e3 => ?_
         refine wp_ite (fun e => wpS_pure ⟨⟨ss.arr, ss.kind, ss.pend, ss.failed⟩, .inl ⟨_, rfl, dnB _ _ _ jB (by simpa using e)⟩⟩) fun e4 => ?_
         have e3 : k' ≠ 1 := by simpa using e3
         have e4 : k' ≠ 0 := by simpa using e4
         have jz := jB
         have fz := fun i (i1 : i < k') (i2 : i < b.size) => KeyOrd.kle_of_klt (m2 i i1)
         obtain ⟨na', rfl⟩ : ∃ n, k = n + 1 := ⟨k - 1, by omega⟩
         have hna : na' < a.size := by omega
         refine wpS_bind (wp_elem hna ?_)
         have jw := stpA _ _ _ hna jz fz
         refine wp_ite (fun e => wpS_pure ⟨⟨ss.arr, ss.kind, ss.pend, ss.failed⟩, .inl ⟨_, rfl, dnA _ _ _ jw (by simpa using e)⟩⟩) fun e => ?_
         have e : ¬ (_ : Nat) = 0 := fun h => e (beq_iff_eq.mpr h)
         try dsimp only at e
         refine wp_ite (fun _ => wpS_pure ⟨⟨ss.arr, ss.kind, ss.pend, ss.failed⟩, .inr ⟨rfl, jw, by dsimp only; omega, by dsimp only; omega, by dsimp only; omega⟩⟩) fun _ => wpS_pure ⟨rfl, ⟨ss.arr, ss.kind, ss.pend, ss.failed⟩, jw, by dsimp only; omega, by dsimp only; omega, by dsimp only; omega⟩
        ·have jz := jy
         try dsimp only at hn
         have fz := fun i (i1 : i < nb) (i2 : i < b.size) => KeyOrd.kle_of_klt (m2 i (by omega))
         obtain ⟨na', rfl⟩ : ∃ n, k = n + 1 := ⟨k - 1, by omega⟩
         have hna : na' < a.size := by omega
         refine wpS_bind (wp_elem hna ?_)
         have jw := stpA _ _ _ hna jz fz
         refine wp_ite (fun e => wpS_pure ⟨⟨ss.arr, ss.kind, ss.pend, ss.failed⟩, .inl ⟨_, rfl, dnA _ _ _ jw (by simpa using e)⟩⟩) fun e => ?_
         have e : ¬ (_ : Nat) = 0 := fun h => e (beq_iff_eq.mpr h)
         try dsimp only at e
         refine wp_ite (fun _ => wpS_pure ⟨⟨ss.arr, ss.kind, ss.pend, ss.failed⟩, .inr ⟨rfl, jw, by dsimp only; omega, by dsimp only; omega, by dsimp only; omega⟩⟩) fun _ => wpS_pure ⟨rfl, ⟨ss.arr, ss.kind, ss.pend, ss.failed⟩, jw, by dsimp only; omega, by dsimp only; omega, by dsimp only; omega⟩
       ·have jx := j
        try dsimp only at hn
        have fx := fun i (i1 : i < na) (i2 : i < a.size) => k2 i (by omega)
        obtain ⟨nb, rfl⟩ : ∃ n, nb = n + 1 := ⟨nb - 1, by omega⟩
        have hnb : nb < b.size := by omega
        refine wpS_bind (wp_elem hnb ?_)
        have jy := stpB _ _ _ hnb jx fx
        refine wp_ite (fun e => wpS_pure ⟨⟨ss.arr, ss.kind, ss.pend, ss.failed⟩, .inl ⟨_, rfl, lst _ _ _ jy (by simpa using e)⟩⟩) fun e => ?_
        have e : ¬ (_ : Nat) = 1 := fun h => e (beq_iff_eq.mpr h)
        try dsimp only at e
        have hna1 : na - 1 < a.size := by omega
        refine wpS_bind (wp_elem hna1 ?_)
        refine wpS_bind (wp_galT (base := 0) (n := nb) (hint := nb - 1) hg c (by exact ss.kind.trans hk) (ha _ (Array.getElem_mem_toList hna1)) hb (by omega) (fun i j i1 i2 i3 => sb i j (Nat.zero_le _) i2 (by omega)) (by omega) fun k' m1 m2 m3 => ?_)
        simp only [Nat.zero_add] at m2 m3
        have jB := chB _ _ _ k' m1 hna1 (by omega) jy m3
        refine wp_ite (fun hp => ?_) (fun hn => ?_)
        ·refine wp_ite (fun e => wpS_pure ⟨⟨ss.arr, ss.kind, ss.pend, ss.failed⟩, .inl ⟨_, rfl, lst _ _ _ jB (by simpa using e)⟩⟩) fun e3 => ?_
         refine wp_ite (fun e => wpS_pure ⟨⟨ss.arr, ss.kind, ss.pend, ss.failed⟩, .inl ⟨_, rfl, dnB _ _ _ jB (by simpa using e)⟩⟩) fun e4 => ?_
         have e3 : k' ≠ 1 := by simpa using e3
         have e4 : k' ≠ 0 := by simpa using e4
         have jz := jB
         have fz := fun i (i1 : i < k') (i2 : i < b.size) => KeyOrd.kle_of_klt (m2 i i1)
         obtain ⟨na', rfl⟩ : ∃ n, na = n + 1 := ⟨na - 1, by omega⟩
         have hna : na' < a.size := by omega
         refine wpS_bind (wp_elem hna ?_)
         have jw := stpA _ _ _ hna jz fz
         refine wp_ite (fun e => wpS_pure ⟨⟨ss.arr, ss.kind, ss.pend, ss.failed⟩, .inl ⟨_, rfl, dnA _ _ _ jw (by simpa using e)⟩⟩) fun e => ?_
         have e : ¬ (_ : Nat) = 0 := fun h => e (beq_iff_eq.mpr h)
         try dsimp only at e
         refine wp_ite (fun _ => wpS_pure ⟨⟨ss.arr, ss.kind, ss.pend, ss.failed⟩, .inr ⟨rfl, jw, by dsimp only; omega, by dsimp only; omega, by dsimp only; omega⟩⟩) fun _ => wpS_pure ⟨rfl, ⟨ss.arr, ss.kind, ss.pend, ss.failed⟩, jw, by dsimp only; omega, by dsimp only; omega, by dsimp only; omega⟩
        ·have jz := jy
         try dsimp only at hn
         have fz := fun i (i1 : i < nb) (i2 : i < b.size) => KeyOrd.kle_of_klt (m2 i (by omega))
         obtain ⟨na', rfl⟩ : ∃ n, na = n + 1 := ⟨na - 1, by omega⟩
         have hna : na' < a.size := by omega
         refine wpS_bind (wp_elem hna ?_)
         have jw := stpA _ _ _ hna jz fz
         refine wp_ite (fun e => wpS_pure ⟨⟨ss.arr, ss.kind, ss.pend, ss.failed⟩, .inl ⟨_, rfl, dnA _ _ _ jw (by simpa using e)⟩⟩) fun e => ?_
         have e : ¬ (_ : Nat) = 0 := fun h => e (beq_iff_eq.mpr h)
         try dsimp only at e
         refine wp_ite (fun _ => wpS_pure ⟨⟨ss.arr, ss.kind, ss.pend, ss.failed⟩, .inr ⟨rfl, jw, by dsimp only; omega, by dsimp only; omega, by dsimp only; omega⟩⟩) fun _ => wpS_pure ⟨rfl, ⟨ss.arr, ss.kind, ss.pend, ss.failed⟩, jw, by dsimp only; omega, by dsimp only; omega, by dsimp only; omega⟩
     ·rintro ⟨o, na, nb, out, mg, ac, bc⟩ st3 ⟨ho, ss, j, l1, l2, l4⟩
      exact ⟨ss, .inr ⟨ho, j, l1, l2, l4⟩⟩
     ·rintro ⟨o, na, nb, out, mg, ac, bc⟩ st3 ⟨ss, hh⟩
      rcases hh with ⟨m, ho, gm⟩ | ⟨ho, j, l8, l9, l10⟩
      ·simp only at ho; subst ho
       exact wpS_pure (wpS_pure (q _ _ ss gm))
      ·simp only at ho j l8 l9 l10; subst ho
       refine wpS_bind (wpS_modify (wpS_pure ⟨rfl, ⟨ss.arr, ss.kind, ss.pend, ss.failed⟩, j, l8, l9, by dsimp only; omega⟩))
  ·rintro ⟨o, na, nb, out, mg⟩ st' ⟨ho, ss, j, l1, l2, l3⟩
   simp only at l1 l2 l3
   omega
end
end TS
end
section
namespace TS
section
variable {prog : Program} {w : World} {A : Around} {E : Value -> Shared -> Prop} {s : Shared} {a₀ : Array Keyed} {κ : PyProof.Rows.KeyKind} {kd : SortKind} {st : SortSt}
theorem wr_get (sa : Nat) : ∀ (l : List Keyed) (n : Nat) (arr : Array Keyed), sa + n + l.length <= arr.size -> ∀ k, (List.foldl (fun (a : Array Keyed) (x : Keyed × Nat) => match x with | (p, j) => a.setIfInBounds (sa + j) p) arr (l.zipIdx n))[k]? = if sa + n <= k /\ k < sa + n + l.length then l[k - (sa + n)]? else arr[k]?
 | [], n, arr, h, k => by
  rw [List.zipIdx_nil, List.foldl_nil, if_neg (by simp)]
 | x :: l, n, arr, h, k => by
  simp only [List.length_cons] at h
  rw [List.zipIdx_cons, List.foldl_cons, wr_get sa l (n + 1) _ (by simp; omega)]
  simp only [List.length_cons]
  by_cases h1 : k = sa + n
  ·subst h1
   rw [if_neg (by omega), if_pos (by omega), Array.getElem?_setIfInBounds_self_of_lt (by omega)]
   simp
  ·by_cases h2 : sa + (n + 1) <= k /\ k < sa + (n + 1) + l.length
   ·rw [if_pos h2, if_pos (by omega), show k - (sa + n) = (k - (sa + (n + 1))) + 1 by omega, List.getElem?_cons_succ]
   ·rw [if_neg h2, if_neg (by omega), Array.getElem?_setIfInBounds_ne (by omega)]
theorem wr_toList {arr m : Array Keyed} {sa : Nat} (h : sa + m.size <= arr.size) : (wr arr sa m).toList = arr.toList.take sa ++ m.toList ++ arr.toList.drop (sa + m.size) := by
 refine List.ext_getElem? fun k => ?_
 have := wr_get sa m.toList 0 arr (by simpa using h) k
 rw [Array.getElem?_toList]
 unfold wr
 rw [this]
 simp only [Array.length_toList, Nat.add_zero, Array.getElem?_toList]
 have hl : (arr.toList.take sa).length = sa := by simp; omega
 by_cases h1 : k < sa
 ·rw [if_neg (by omega), List.append_assoc, List.getElem?_append_left (by omega), List.getElem?_take_of_lt h1, Array.getElem?_toList]
 ·by_cases h2 : k < sa + m.size
  ·rw [if_pos (by omega), List.append_assoc, List.getElem?_append_right (by omega), List.getElem?_append_left (by simp; omega), hl, Array.getElem?_toList]
  ·rw [if_neg (by omega), List.getElem?_append_right (by simp; omega), List.getElem?_drop, Array.getElem?_toList]
   congr 1
   simp only [List.length_append, hl, Array.length_toList]
   omega
theorem wr_KK {arr m : Array Keyed} {sa : Nat} (h : sa + m.size <= arr.size) (k : Nat) : KK κ (wr arr sa m) k = if sa <= k /\ k < sa + m.size then KK κ m (k - sa) else KK κ arr k := by
 have := wr_get sa m.toList 0 arr (by simpa using h) k
 simp only [Array.length_toList, Nat.add_zero, Array.getElem?_toList] at this
 split
 ·rename_i h1
  rw [if_pos h1] at this
  exact KK_congr this
 ·rename_i h1
  rw [if_neg h1] at this
  exact KK_congr this
theorem wr_perm {arr m : Array Keyed} {sa sb : Nat} (h : sb <= arr.size) (hs : sa <= sb) (p : m.toList.Perm (arr.extract sa sb).toList) : (wr arr sa m).Perm arr := by
 have hz : m.size = sb - sa := by
  have := p.length_eq
  simp at this; omega
 rw [Array.perm_iff_toList_perm, wr_toList (by omega)]
 have e : arr.toList = arr.toList.take sa ++ (arr.extract sa sb).toList ++ arr.toList.drop (sa + m.size) := by
  rw [hz, Array.toList_extract, List.extract, show sa + (sb - sa) = sb by omega]
  conv => lhs; rw [<- List.take_append_drop sb arr.toList]
  congr 1
  conv => lhs; rw [show sb = sa + (sb - sa) by omega, List.take_add]
 conv => rhs; rw [e]
 exact (p.append_left _).append_right _
theorem seg_glue {arr arr' : Array Keyed} {lo p q hi : Nat} (h1 : ∀ k, k < p \/ q <= k -> KK κ arr' k = KK κ arr k) (h2 : Seg κ arr' p q) (h3 : ∀ k, p <= k -> k < q -> ∃ r, p <= r /\ r < q /\ KK κ arr' k = KK κ arr r) (s1 : Seg κ arr lo p) (s3 : Seg κ arr q hi)
  (c12 : ∀ i r, lo <= i -> i < p -> p <= r -> r < q -> κ.kle (KK κ arr i) (KK κ arr r)) (c23 : ∀ r j, p <= r -> r < q -> q <= j -> j < hi -> κ.kle (KK κ arr r) (KK κ arr j)) (c13 : ∀ i j, lo <= i -> i < p -> q <= j -> j < hi -> κ.kle (KK κ arr i) (KK κ arr j)) : Seg κ arr' lo hi := by
 intro i j i1 i2 i3
 by_cases a1 : i < p
 ·rw [h1 i (.inl a1)]
  by_cases b1 : j < p
  ·rw [h1 j (.inl b1)]; exact s1 i j i1 i2 b1
  ·by_cases b2 : j < q
   ·obtain ⟨r, r1, r2, e⟩ := h3 j (by omega) b2
    rw [e]; exact c12 i r i1 a1 r1 r2
   ·rw [h1 j (.inr (by omega))]; exact c13 i j i1 a1 (by omega) i3
 ·by_cases a2 : i < q
  ·by_cases b2 : j < q
   ·exact h2 i j (by omega) i2 b2
   ·obtain ⟨r, r1, r2, e⟩ := h3 i (by omega) a2
    rw [e, h1 j (.inr (by omega))]; exact c23 r j r1 r2 (by omega) i3
  ·rw [h1 i (.inr (by omega)), h1 j (.inr (by omega))]; exact s3 i j (by omega) i2 i3
theorem KK_ex {arr : Array Keyed} {i j m : Nat} (hj : j <= arr.size) (h : m < j - i) : KK κ (arr.extract i j) m = KK κ arr (i + m) := by
 refine KK_congr ?_
 rw [Array.getElem?_extract, if_pos (by omega)]
theorem wp_set {M : Model} {σ : Type} {st st' : σ} {Q : PUnit -> σ -> Prop} (q : Q ⟨⟩ st') : wpS M A E s (set st') Q st := wpAny_pure ⟨rfl, q⟩
theorem wp_mergeAt {i sa na pw sb nb pw2 : Nat} (c : CL (model prog w) A E s a₀ κ kd) (h : SB a₀ kd st) (h1 : (pendingOf st)[i]? = some (sa, na, pw)) (h2 : (pendingOf st)[i + 1]? = some (sb, nb, pw2)) (hs : sb = sa + na) (n1 : 1 <= na) (n2 : 1 <= nb) (hz : sb + nb <= a₀.size) (g1 : Seg κ (arrOf st) sa sb) (g2 : Seg κ (arrOf st) sb (sb + nb)) {Q : Bool -> SortSt -> Prop}
  (q : ∀ st', SB a₀ kd st' -> pendingOf st' = ((pendingOf st).setIfInBounds i (sa, na + nb, pw)).eraseIdxIfInBounds (i + 1) -> Seg κ (arrOf st') sa (sb + nb) -> (∀ k, k < sa \/ sb + nb <= k -> KK κ (arrOf st') k = KK κ (arrOf st) k) -> Q true st') : wpS (model prog w) A E s (mergeAt' i) Q st := by
 obtain ⟨g, mlo, mhi, eq, hg, hlo, hhi⟩ := parts
 rw [eq]
 unfold mergeAtG
 refine wpS_bind (wpS_get ?_)
 rw [h1, h2]
 have sz := h.size
 have hsb : sb < (arrOf st).size := by omega
 refine wpS_bind (wp_set ?_)
 refine wpS_bind (wp_elem hsb ?_)
 refine wpS_bind (wp_galF (base := sa) (n := na) (hint := 0) hg c (by exact h.kind) (h.mem _ (Array.getElem_mem_toList hsb)) h.mem (by omega) (hs ▸ g1) (by omega) fun k k1 k2 k3 => ?_)
 rw [<- KK_ky (Array.getElem?_eq_getElem hsb)] at k2 k3
 have h' : SB a₀ kd (setPending st (((pendingOf st).setIfInBounds i (sa, na + nb, pw)).eraseIdxIfInBounds (i + 1))) := ⟨h.perm, h.kind, h.failed⟩
 refine wp_ite (fun e => wpS_pure (q _ h' rfl ?_ fun _ _ => rfl)) fun e1 => ?_
 ·have e : na - k = 0 := by simpa using e
  refine seg_glue (p := sb) (q := sb) (arr := arrOf st) (fun _ _ => rfl) (fun _ _ _ _ _ => by omega) (fun _ _ _ => by omega) g1 g2 (fun _ _ _ _ _ _ => by omega) (fun _ _ _ _ _ _ => by omega) fun i j i1 i2 j1 j2 => ?_
  have := k2 (i - sa) (by omega)
  rw [show sa + (i - sa) = i by omega] at this
  exact KeyOrd.kle_trans this (g2 _ _ (Nat.le_refl _) j1 j2)
 have e1 : na - k ≠ 0 := by simpa using e1
 have hy : sa + k + (na - k) - 1 < (arrOf st).size := by omega
 refine wpS_bind (wp_elem hy ?_)
 refine wpS_bind (wp_galT (base := sb) (n := nb) (hint := nb - 1) hg c (by exact h.kind) (h.mem _ (Array.getElem_mem_toList hy)) h.mem (by omega) g2 (by omega) fun m m1 m2 m3 => ?_)
 rw [<- KK_ky (Array.getElem?_eq_getElem hy), show sa + k + (na - k) - 1 = sb - 1 by omega] at m2 m3
 refine wp_ite (fun e => wpS_pure (q _ h' rfl ?_ fun _ _ => rfl)) fun e2 => ?_
 ·have e : m = 0 := by simpa using e
  refine seg_glue (p := sb) (q := sb) (arr := arrOf st) (fun _ _ => rfl) (fun _ _ _ _ _ => by omega) (fun _ _ _ => by omega) g1 g2 (fun _ _ _ _ _ _ => by omega) (fun _ _ _ _ _ _ => by omega) fun i j i1 i2 j1 j2 => ?_
  have := m3 (j - sb) (by omega) (by omega)
  rw [show sb + (j - sb) = j by omega] at this
  exact KeyOrd.kle_trans (g1 i (sb - 1) i1 (by omega) (by omega)) this
 have e2 : m ≠ 0 := by simpa using e2
 have za : ((arrOf st).extract (sa + k) sb).size = na - k := by simp; omega
 have zb : ((arrOf st).extract sb (sb + m)).size = m := by simp; omega
 have fin : ∀ (mm : Array Keyed) (st' : SortSt), St (setPending st (((pendingOf st).setIfInBounds i (sa, na + nb, pw)).eraseIdxIfInBounds (i + 1))) st' -> GoodM (Rk κ) (((arrOf st).extract (sa + k) sb).toList ++ ((arrOf st).extract sb (sb + m)).toList) mm.toList -> wpS (model prog w) A E s (mergeFin (sa + k) mm) Q st' := by
  intro mm st' ss ⟨gp, gs⟩
  unfold mergeFin
  refine wpS_bind (wpS_modify ?_)
  refine wpS_bind (wpS_get ?_)
  have hf : failedOf (setArr st' (wr (arrOf st') (sa + k) mm)) = none := ss.failed.trans h.failed
  rw [hf]
  have ea : arrOf st' = arrOf st := ss.arr
  have gp' : mm.toList.Perm ((arrOf st).extract (sa + k) (sb + m)).toList := by
   refine gp.trans ?_
   rw [<- Array.toList_append, Array.extract_append_extract, show min (sa + k) sb = sa + k by omega, show max sb (sb + m) = sb + m by omega]
  have zm : mm.size = (sb + m) - (sa + k) := by
   have := gp'.length_eq
   simp at this; omega
  have kk := wr_KK (κ := κ) (arr := arrOf st) (m := mm) (sa := sa + k) (by omega)
  refine wpS_pure (q _ ⟨?_, ss.kind.trans h.kind, hf⟩ ss.pend ?_ ?_)
  ·show (wr (arrOf st') (sa + k) mm).Perm a₀
   rw [ea]
   exact (wr_perm (sb := sb + m) (by omega) (by omega) gp').trans h.perm
  ·show Seg κ (wr (arrOf st') (sa + k) mm) sa (sb + nb)
   rw [ea]
   have sg := pair_seg gs
   refine seg_glue (p := sa + k) (q := sb + m) (arr := arrOf st) (fun j hj => ?_) (fun i j i1 i2 i3 => ?_) (fun j j1 j2 => ?_) (fun i j i1 i2 i3 => g1 i j i1 i2 (by omega)) (fun i j i1 i2 i3 => g2 i j (by omega) i2 i3) (fun i r i1 i2 r1 r2 => ?_) (fun r j r1 r2 j1 j2 => ?_) fun i j i1 i2 j1 j2 => ?_
   ·rw [kk, if_neg (by omega)]
   ·rw [kk, kk, if_pos (by omega), if_pos (by omega)]
    exact sg _ _ (Nat.zero_le _) (by omega) (by omega)
   ·rw [kk, if_pos (by omega)]
    have hj : j - (sa + k) < mm.size := by omega
    rw [KK_ky (Array.getElem?_eq_getElem hj)]
    have hm := gp'.mem_iff.mp (Array.getElem_mem_toList hj)
    obtain ⟨r, hr, er⟩ := List.getElem_of_mem hm
    have hr' : r < sb + m - (sa + k) := by simp at hr; omega
    refine ⟨sa + k + r, by omega, by omega, ?_⟩
    rw [<- er, <- KK_ex (κ := κ) (arr := arrOf st) (i := sa + k) (j := sb + m) (m := r) (by omega) hr', KK_ky (Array.getElem?_eq_getElem (by simp; omega))]
    simp
   ·rcases Nat.lt_or_ge r sb with hr | hr
    ·exact g1 i r i1 (by omega) hr
    ·have := k2 (i - sa) (by omega)
     rw [show sa + (i - sa) = i by omega] at this
     exact KeyOrd.kle_trans this (g2 _ _ (Nat.le_refl _) hr (by omega))
   ·rcases Nat.lt_or_ge r sb with hr | hr
    ·have := m3 (j - sb) (by omega) (by omega)
     rw [show sb + (j - sb) = j by omega] at this
     exact KeyOrd.kle_trans (g1 r (sb - 1) (by omega) (by omega) (by omega)) this
    ·exact g2 r j hr (by omega) j2
   ·have := k2 (i - sa) (by omega)
    rw [show sa + (i - sa) = i by omega] at this
    exact KeyOrd.kle_trans this (g2 _ _ (Nat.le_refl _) (by omega) j2)
  ·intro j hj
   show KK κ (wr (arrOf st') (sa + k) mm) j = _
   rw [ea, kk, if_neg (by omega)]
 have ma : ∀ x, x ∈ ((arrOf st).extract (sa + k) sb).toList -> x ∈ a₀.toList := fun x hx => h.mem x (by
  rw [Array.toList_extract, List.extract] at hx
  exact List.mem_of_mem_drop (List.mem_of_mem_take hx))
 have mb : ∀ x, x ∈ ((arrOf st).extract sb (sb + m)).toList -> x ∈ a₀.toList := fun x hx => h.mem x (by
  rw [Array.toList_extract, List.extract] at hx
  exact List.mem_of_mem_drop (List.mem_of_mem_take hx))
 have sga : Seg κ ((arrOf st).extract (sa + k) sb) 0 ((arrOf st).extract (sa + k) sb).size := fun i j _ i2 i3 => by
  rw [za] at i3
  rw [KK_ex (by omega) (by omega), KK_ex (by omega) (by omega)]
  exact g1 _ _ (by omega) (by omega) (by omega)
 have sgb : Seg κ ((arrOf st).extract sb (sb + m)) 0 ((arrOf st).extract sb (sb + m)).size := fun i j _ i2 i3 => by
  rw [zb] at i3
  rw [KK_ex (by omega) (by omega), KK_ex (by omega) (by omega)]
  exact g2 _ _ (by omega) (by omega) (by omega)
 have q0 : κ.klt (KK κ ((arrOf st).extract sb (sb + m)) 0) (KK κ ((arrOf st).extract (sa + k) sb) 0) := by
  rw [KK_ex (by omega) (by omega), KK_ex (by omega) (by omega)]
  exact k3 k (Nat.le_refl _) (by omega)
 have q9 : κ.klt (KK κ ((arrOf st).extract sb (sb + m)) (((arrOf st).extract sb (sb + m)).size - 1)) (KK κ ((arrOf st).extract (sa + k) sb) (((arrOf st).extract (sa + k) sb).size - 1)) := by
  rw [za, zb, KK_ex (by omega) (by omega), KK_ex (by omega) (by omega), show sa + k + (na - k - 1) = sb - 1 by omega]
  exact m2 (m - 1) (by omega)
 refine wp_ite (fun _ => ?_) (fun _ => ?_)
 ·exact wpS_bind (hlo _ _ _ _ _ _ _ _ c _ h'.kind _ _ ma mb sga sgb (by omega) (by omega) q0 q9 _ fin)
 ·exact wpS_bind (hhi _ _ _ _ _ _ _ _ c _ h'.kind _ _ ma mb sga sgb (by omega) (by omega) q0 q9 _ fin)
end
end TS
end
section
namespace TS
section
variable {prog : Program} {w : World} {A : Around} {E : Value -> Shared -> Prop} {s : Shared} {a₀ : Array Keyed} {κ : PyProof.Rows.KeyKind} {kd : SortKind} {st : SortSt}
def Runs (κ : PyProof.Rows.KeyKind) (arr : Array Keyed) : List (Nat × Nat × Nat) -> Nat -> Nat -> Prop
 | [], lo, hi => lo = hi
 | (s, n, _) :: ps, lo, hi => s = lo /\ 1 <= n /\ Seg κ arr s (s + n) /\ Runs κ arr ps (s + n) hi
variable {arr arr' : Array Keyed}
theorem Runs.app : ∀ {l1 l2 : List (Nat × Nat × Nat)} {lo hi : Nat}, Runs κ arr (l1 ++ l2) lo hi ↔ ∃ m, Runs κ arr l1 lo m /\ Runs κ arr l2 m hi
 | [], l2, lo, hi => ⟨fun h => ⟨lo, rfl, h⟩, fun hpat => by obtain ⟨m, e, h⟩ := hpat; cases e; exact h⟩
 | (s, n, p) :: l1, l2, lo, hi => ⟨fun hpat => by
   obtain ⟨a, b, c, d⟩ := hpat
   obtain ⟨m, h1, h2⟩ := Runs.app.mp d
   exact ⟨m, ⟨a, b, c, h1⟩, h2⟩, fun ⟨m, ⟨a, b, c, d⟩, h⟩ => ⟨a, b, c, Runs.app.mpr ⟨m, d, h⟩⟩⟩
theorem Runs.len : ∀ {l : List (Nat × Nat × Nat)} {lo hi : Nat}, Runs κ arr l lo hi -> lo + l.length <= hi
 | [], lo, hi, h => by cases h; simp
 | (s, n, p) :: l, lo, hi, ⟨a, b, _, d⟩ => by
  have := d.len
  simp only [List.length_cons]; omega
theorem Runs.congr : ∀ {l : List (Nat × Nat × Nat)} {lo hi : Nat}, Runs κ arr l lo hi -> (∀ k, lo <= k -> k < hi -> KK κ arr' k = KK κ arr k) -> Runs κ arr' l lo hi
 | [], lo, hi, h, _ => h
 | (s, n, p) :: l, lo, hi, ⟨a, b, c, d⟩, e => ⟨a, b, c.congr fun k k1 k2 => e k (by omega) (by have := d.len; omega), d.congr fun k k1 k2 => e k (by omega) k2⟩
theorem erase_mid {α : Type} {l1 l2 : List α} {x y z : α} : (((l1 ++ x :: y :: l2).set l1.length z).eraseIdx (l1.length + 1)) = l1 ++ z :: l2 := by
 rw [List.set_append_right _ _ (Nat.le_refl _), Nat.sub_self, List.set_cons_zero, List.eraseIdx_append_of_length_le (by omega)]
 simp
theorem wp_mrg {i hi : Nat} (c : CL (model prog w) A E s a₀ κ kd) (h : SB a₀ kd st) (hr : Runs κ (arrOf st) (pendingOf st).toList 0 hi) (hi2 : i + 1 < (pendingOf st).size) (hz : hi <= a₀.size) {Q : Bool -> SortSt -> Prop}
  (q : ∀ st', SB a₀ kd st' -> Runs κ (arrOf st') (pendingOf st').toList 0 hi -> (pendingOf st').size + 1 = (pendingOf st).size -> (∀ k, hi <= k -> KK κ (arrOf st') k = KK κ (arrOf st) k) -> Q true st') : wpS (model prog w) A E s (mergeAt' i) Q st := by
 have hl : i + 1 < (pendingOf st).toList.length := by simpa using hi2
 obtain ⟨l1, x, y, l2, e, e1⟩ : ∃ l1 x y l2, (pendingOf st).toList = l1 ++ x :: y :: l2 /\ l1.length = i := by
  refine ⟨(pendingOf st).toList.take i, (pendingOf st).toList[i], (pendingOf st).toList[i + 1], (pendingOf st).toList.drop (i + 2), ?_, by simp; omega⟩
  rw [<- List.drop_eq_getElem_cons hl, <- List.drop_eq_getElem_cons (by omega), List.take_append_drop]
 obtain ⟨sa, na, pw⟩ := x
 obtain ⟨sb, nb, pw2⟩ := y
 rw [e] at hr
 obtain ⟨m, r1, r2, r3, r4, r5, r6, r7, r8⟩ := Runs.app.mp hr
 have hlen := r8.len
 refine wp_mergeAt c h (sa := sa) (na := na) (pw := pw) (sb := sb) (nb := nb) (pw2 := pw2) (by rw [<- Array.getElem?_toList, e, <- e1]; simp) (by rw [<- Array.getElem?_toList, e, <- e1]; simp) r5 r3 r6 (by omega) (r5 ▸ r4) r7 fun st' h' ep sg kk => ?_
 have ep' : (pendingOf st').toList = l1 ++ (sa, na + nb, pw) :: l2 := by
  rw [ep, Array.toList_eraseIdxIfInBounds, Array.toList_setIfInBounds, e, <- e1, erase_mid]
 refine q st' h' ?_ ?_ fun k hk => kk k (.inr (by omega))
 ·rw [ep']
  have r1l := r1.len
  refine Runs.app.mpr ⟨m, r1.congr fun k _ k2 => kk k (.inl (by omega)), r2, by omega, by rw [<- Nat.add_assoc, <- r5]; exact sg, ?_⟩
  rw [<- Nat.add_assoc, <- r5]
  exact r8.congr fun k k1 k2 => kk k (.inr (by omega))
 ·have a := congrArg List.length ep'
  have b := congrArg List.length e
  simp at a b
  omega
theorem runs_one {l : List (Nat × Nat × Nat)} {n : Nat} (h : Runs κ arr l 0 n) (hl : l.length <= 1) : Seg κ arr 0 n := by
 match l, h with
 | [], h => cases h; exact fun i j _ _ h => absurd h (Nat.not_lt_zero _)
 | [(s, m, p)], ⟨a, b, c, d⟩ =>
  have d : s + m = n := d
  subst a; subst d
  exact c
 | _ :: _ :: _, _ => simp at hl
theorem Runs.mod {f : Nat × Nat × Nat -> Nat × Nat × Nat} (hf : ∀ x, (f x).1 = x.1 /\ (f x).2.1 = x.2.1) : ∀ {l : List (Nat × Nat × Nat)} {lo hi : Nat} (i : Nat), Runs κ arr l lo hi -> Runs κ arr (l.modify i f) lo hi
 | [], lo, hi, i, h => by simpa using h
 | (s, n, p) :: l, lo, hi, 0, h => by
  rw [List.modify_zero_cons]
  have := hf (s, n, p)
  revert this
  generalize f (s, n, p) = x
  obtain ⟨a, b, c⟩ := x
  rintro ⟨e1, e2⟩
  simp only at e1 e2
  subst e1 e2
  exact h
 | (s, n, p) :: l, lo, hi, i + 1, ⟨a, b, c, d⟩ => by
  rw [List.modify_succ_cons]
  exact ⟨a, b, c, Runs.mod hf i d⟩
theorem modify_runs {ps : Array (Nat × Nat × Nat)} {lo hi pw : Nat} (h : Runs κ arr ps.toList lo hi) : Runs κ arr (ps.modify (ps.size - 1) fun x => match x with | (st, len, _) => (st, len, pw)).toList lo hi := by
 rw [Array.toList_modify]
 exact Runs.mod (f := fun x => match x with | (st, len, _) => (st, len, pw)) (fun x => ⟨rfl, rfl⟩) _ h
theorem wp_runs (c : CL (model prog w) A E s a₀ κ kd) (h : SB a₀ kd st) (hp : pendingOf st = #[]) {Q : Unit -> SortSt -> Prop}
  (q : ∀ st', (arrOf st').Perm a₀ -> failedOf st' = none -> SortedToK κ (arrOf st') a₀.size -> Q () st') : wpS (model prog w) A E s sortRuns' Q st := by
 rw [sortRuns'_eq]
 refine wpS_bind (wpS_get ?_)
 have sz := h.size
 refine wpS_bind (wpS_mono (Q := fun t st' => t.1 = none /\ SB a₀ kd st' /\ Runs κ (arrOf st') (pendingOf st').toList 0 a₀.size) (wp_range 0 (arrOf st).size _ _ (fun r t st' => t.1 = none /\ SB a₀ kd st' /\ Runs κ (arrOf st') (pendingOf st').toList 0 t.2 /\ t.2 <= a₀.size /\ a₀.size <= t.2 + r) _ ⟨rfl, h, by rw [hp]; rfl, by dsimp only; omega, by dsimp only; omega⟩ ?_ ?_) ?_)
 ·rintro _ r ⟨o, lo⟩ st1 _ _ _ ⟨ho, h1, r1, l1, l2⟩
  simp only at ho r1 l1 l2
  subst ho
  refine wp_ite (fun e => wpS_pure ⟨rfl, h1, ?_⟩) fun e => ?_
  ·have e : lo ≥ (arrOf st).size := e
   rw [show lo = a₀.size by omega] at r1; exact r1
  have e : ¬ lo ≥ (arrOf st).size := e
  refine wpS_bind (wp_countRun c h1 (lo := lo) (nrem := (arrOf st).size - lo) (by omega) (by omega) fun m st2 ch m1 m2 sg => ?_)
  have r2 : Runs κ (arrOf st2) (pendingOf st2).toList 0 lo := by
   rw [ch.pend]; exact r1.congr fun k _ hk => ch.pre k hk
  refine wp_ite (fun e2 => ?_) (fun e2 => ?_)
  ·refine wpS_bind (wpS_lift (wpAny_rule ⟨rfl, ?_⟩))
   have e2 : m < minRun' (arrOf st).size (arrOf st).size 0 := e2
   refine wpS_bind (wp_bin c ch.sb (lo := lo) (n := min ((arrOf st).size - lo) (minRun' (arrOf st).size (arrOf st).size 0)) m1 (by omega) (by omega) sg fun st3 ch3 sg3 => ?_)
   have hS := ch3.sb
   have hR : Runs κ (arrOf st3) (pendingOf st3).toList 0 lo := by
    rw [ch3.pend]; exact r2.congr fun k _ hk => ch3.pre k hk
   have hG := sg3
   have hN : 1 <= min ((arrOf st).size - lo) (minRun' (arrOf st).size (arrOf st).size 0) := by omega
   have hM : lo + min ((arrOf st).size - lo) (minRun' (arrOf st).size (arrOf st).size 0) <= a₀.size := by omega
   refine wp_ite (fun e => absurd e (by simp)) fun _ => ?_
   clear e2 m1 m2 r2 sg
   revert hG hN hM
   generalize min ((arrOf st).size - lo) (minRun' (arrOf st).size (arrOf st).size 0) = N
   intro hG hN hM
   refine wpS_bind (wpS_get ?_)
   have push : ∀ st8 : SortSt, SB a₀ kd st8 -> Runs κ (arrOf st8) (pendingOf st8).toList 0 lo -> (∀ k, lo <= k -> KK κ (arrOf st8) k = KK κ (arrOf st3) k) -> Runs κ (arrOf st8) ((pendingOf st8).push (lo, N, 0)).toList 0 (lo + N) := fun st8 h3 r3 k3 => by
    rw [Array.toList_push]
    exact Runs.app.mpr ⟨lo, r3, rfl, hN, hG.congr fun k k1 _ => k3 k k1, rfl⟩
   have push' : ∀ (st8 : SortSt) (pw : Nat), SB a₀ kd st8 -> Runs κ (arrOf st8) (pendingOf st8).toList 0 lo -> (∀ k, lo <= k -> KK κ (arrOf st8) k = KK κ (arrOf st3) k) -> Runs κ (arrOf st8) (((pendingOf st8).modify ((pendingOf st8).size - 1) fun x => match x with | (a, b, _) => (a, b, pw)).push (lo, N, 0)).toList 0 (lo + N) := fun st8 pw h3 r3 k3 => push (setPending st8 ((pendingOf st8).modify ((pendingOf st8).size - 1) fun x => match x with | (a, b, _) => (a, b, pw))) ⟨h3.perm, h3.kind, h3.failed⟩ (modify_runs r3) k3
   rcases hb : (pendingOf st3).back? with _ | ⟨s1, n1, pw1⟩
   ·exact wpS_bind (wpS_modify (wpS_pure ⟨rfl, ⟨hS.perm, hS.kind, hS.failed⟩, push st3 hS hR fun _ _ => rfl, hM, by dsimp only; omega⟩))
   ·refine wpS_bind (wpS_mono (Q := fun t st' => t.1 = none /\ SB a₀ kd st' /\ Runs κ (arrOf st') (pendingOf st').toList 0 lo /\ ∀ k, lo <= k -> KK κ (arrOf st') k = KK κ (arrOf st3) k) (wp_range 0 _ _ _ (fun _ t st' => t.1 = none /\ SB a₀ kd st' /\ Runs κ (arrOf st') (pendingOf st').toList 0 lo /\ ∀ k, lo <= k -> KK κ (arrOf st') k = KK κ (arrOf st3) k) _ ⟨rfl, hS, hR, fun _ _ => rfl⟩ ?_ ?_) ?_)
    ·rintro _ r ⟨o, _⟩ st8 _ _ _ ⟨ho, h3, r3, k3⟩
     simp only at ho
     subst ho
     refine wpS_bind (wpS_get ?_)
     dsimp only
     by_cases hgt : (pendingOf st8).size > 1
     ·rcases he : (pendingOf st8)[(pendingOf st8).size - 2]? with _ | ⟨x1, x2, older⟩
      ·rw [if_pos hgt]
       exact wpS_pure ⟨rfl, h3, r3, k3⟩
      ·rw [if_pos hgt]
       refine wp_ite (fun _ => wpS_pure ⟨rfl, h3, r3, k3⟩) fun _ => ?_
       exact wpS_bind (wp_mrg c h3 r3 (by omega) (by omega) fun st9 h4 r4 _ k4 => wpS_pure ⟨rfl, h4, r4, fun k hk => (k4 k hk).trans (k3 k hk)⟩)
     ·rw [if_neg hgt]
      exact wpS_pure ⟨rfl, h3, r3, k3⟩
    ·rintro ⟨o, _⟩ st8 h
     exact h
    ·rintro ⟨o, _⟩ st8 ⟨ho, h3, r3, k3⟩
     simp only at ho
     subst ho
     refine wpS_bind (wpS_modify ?_)
     exact wpS_bind (wpS_modify (wpS_pure ⟨rfl, ⟨h3.perm, h3.kind, h3.failed⟩, push' st8 _ h3 r3 k3, hM, by dsimp only; omega⟩))
  ·have hS := ch.sb
   have hR := r2
   have hG := sg
   have hN := m1
   have hM : lo + m <= a₀.size := by omega
   refine wpS_bind (wpS_get ?_)
   have push : ∀ st8 : SortSt, SB a₀ kd st8 -> Runs κ (arrOf st8) (pendingOf st8).toList 0 lo -> (∀ k, lo <= k -> KK κ (arrOf st8) k = KK κ (arrOf st2) k) -> Runs κ (arrOf st8) ((pendingOf st8).push (lo, m, 0)).toList 0 (lo + m) := fun st8 h3 r3 k3 => by
    rw [Array.toList_push]
    exact Runs.app.mpr ⟨lo, r3, rfl, hN, hG.congr fun k k1 _ => k3 k k1, rfl⟩
   have push' : ∀ (st8 : SortSt) (pw : Nat), SB a₀ kd st8 -> Runs κ (arrOf st8) (pendingOf st8).toList 0 lo -> (∀ k, lo <= k -> KK κ (arrOf st8) k = KK κ (arrOf st2) k) -> Runs κ (arrOf st8) (((pendingOf st8).modify ((pendingOf st8).size - 1) fun x => match x with | (a, b, _) => (a, b, pw)).push (lo, m, 0)).toList 0 (lo + m) := fun st8 pw h3 r3 k3 => push (setPending st8 ((pendingOf st8).modify ((pendingOf st8).size - 1) fun x => match x with | (a, b, _) => (a, b, pw))) ⟨h3.perm, h3.kind, h3.failed⟩ (modify_runs r3) k3
   rcases hb : (pendingOf st2).back? with _ | ⟨s1, n1, pw1⟩
   ·exact wpS_bind (wpS_modify (wpS_pure ⟨rfl, ⟨hS.perm, hS.kind, hS.failed⟩, push st2 hS hR fun _ _ => rfl, hM, by dsimp only; omega⟩))
   ·refine wpS_bind (wpS_mono (Q := fun t st' => t.1 = none /\ SB a₀ kd st' /\ Runs κ (arrOf st') (pendingOf st').toList 0 lo /\ ∀ k, lo <= k -> KK κ (arrOf st') k = KK κ (arrOf st2) k) (wp_range 0 _ _ _ (fun _ t st' => t.1 = none /\ SB a₀ kd st' /\ Runs κ (arrOf st') (pendingOf st').toList 0 lo /\ ∀ k, lo <= k -> KK κ (arrOf st') k = KK κ (arrOf st2) k) _ ⟨rfl, hS, hR, fun _ _ => rfl⟩ ?_ ?_) ?_)
    ·rintro _ r ⟨o, _⟩ st8 _ _ _ ⟨ho, h3, r3, k3⟩
     simp only at ho
     subst ho
     refine wpS_bind (wpS_get ?_)
     dsimp only
     by_cases hgt : (pendingOf st8).size > 1
     ·rcases he : (pendingOf st8)[(pendingOf st8).size - 2]? with _ | ⟨x1, x2, older⟩
      ·rw [if_pos hgt]
       exact wpS_pure ⟨rfl, h3, r3, k3⟩
      ·rw [if_pos hgt]
       refine wp_ite (fun _ => wpS_pure ⟨rfl, h3, r3, k3⟩) fun _ => ?_
       exact wpS_bind (wp_mrg c h3 r3 (by omega) (by omega) fun st9 h4 r4 _ k4 => wpS_pure ⟨rfl, h4, r4, fun k hk => (k4 k hk).trans (k3 k hk)⟩)
     ·rw [if_neg hgt]
      exact wpS_pure ⟨rfl, h3, r3, k3⟩
    ·rintro ⟨o, _⟩ st8 h
     exact h
    ·rintro ⟨o, _⟩ st8 ⟨ho, h3, r3, k3⟩
     simp only at ho
     subst ho
     refine wpS_bind (wpS_modify ?_)
     exact wpS_bind (wpS_modify (wpS_pure ⟨rfl, ⟨h3.perm, h3.kind, h3.failed⟩, push' st8 _ h3 r3 k3, hM, by dsimp only; omega⟩))
 ·rintro ⟨o, lo⟩ st1 ⟨ho, h1, r1, l1, l2⟩
  simp only at r1 l1 l2
  rw [show lo = a₀.size by omega] at r1
  exact ⟨ho, h1, r1⟩
 ·rintro ⟨o, lo⟩ st1 ⟨ho, h1, r1⟩
  simp only at ho
  subst ho
  refine wpS_bind (wpS_mono (Q := fun t st' => t.1 = none /\ SB a₀ kd st' /\ Seg κ (arrOf st') 0 a₀.size) (wp_range 0 _ _ _ (fun r t st' => t.1 = none /\ SB a₀ kd st' /\ Runs κ (arrOf st') (pendingOf st').toList 0 a₀.size /\ (pendingOf st').size <= r + 1) _ ⟨rfl, h1, r1, by have := r1.len; simp at this; omega⟩ ?_ ?_) ?_)
  ·rintro _ r ⟨o, _⟩ st2 _ _ _ ⟨ho, h2, r2, l2⟩
   simp only at ho
   subst ho
   refine wpS_bind (wpS_get ?_)
   refine wp_ite (fun e => wpS_pure ⟨rfl, h2, runs_one r2 (by simpa using e)⟩) fun e => ?_
   have e : ¬ (pendingOf st2).size <= 1 := e
   refine wpS_bind (wp_mrg c h2 r2 ?_ (Nat.le_refl _) fun st3 h3 r3 l3 _ => wpS_pure ⟨rfl, h3, r3, by omega⟩)
   have pick : ∀ (p : Prop) [Decidable p] (n : Nat), 2 <= n -> (if p then n - 2 - 1 else n - 2) + 1 < n := fun p _ n h => by split <;> omega
   exact pick _ _ (by omega)
  ·rintro ⟨o, _⟩ st2 ⟨ho, h2, r2, l2⟩
   exact ⟨ho, h2, runs_one r2 (by simpa using l2)⟩
  ·rintro ⟨o, _⟩ st2 ⟨ho, h2, sg⟩
   simp only at ho
   subst ho
   exact wpS_pure (q st2 h2.perm h2.failed fun i j h1 h2 => sg i j (Nat.zero_le _) h1 h2)
end
end TS
end
section
namespace TS
section
variable {prog : Program} {w : World} {A : Around} {E : Value -> Shared -> Prop} {s : Shared} {κ : PyProof.Rows.KeyKind} {kd : SortKind}
theorem wp_epoch {M : Model} {a : Addr} {o : Obj} {xs : Array Value} {n : Nat} {Q : Nat -> Shared -> Prop} (h : s.heap.get? a = some o) (hd : o.data = .seq xs n) (q : Q n s) : wpAny M A (seqEpoch a) Q E s := by
 wp_walk
 rw [hd]
 exact wpAny_pure q
def sHp (h : Heap) (a : Addr) (vs : List Value) : Heap := ((h.update a (Obj.mapSeq fun _ => #[])).push (seqObj "tuple" vs.toArray 0)).push (seqObj "list" #[] 0)
theorem list_sort_G {a : Addr} {vs : List Value} {n : Nat} {P : PySem.Fin -> Shared -> Prop} (hg : s.heap.get? a = some (seqObj "list" vs.toArray n)) (hl : vs.length <= sizeLine)
  (hk : 2 <= vs.length -> ∀ Q : SortKind -> Shared -> Prop, Q kd { s with heap := sHp s.heap a vs } -> wpAny (model prog w) A (keyKind' vs.toArray) Q E { s with heap := sHp s.heap a vs })
  (hc : CL (model prog w) A E { s with heap := sHp s.heap a vs } (pairsOf vs) κ kd)
  (fin : ∀ xs : Array Keyed, xs.Perm (pairsOf vs) -> SortedToK κ xs (pairsOf vs).size -> P (.done (.ret .none)) { s with heap := sortedHeap s.heap a vs (xs.map (·.2)) }) : wpAny (model prog w) A (Builtin.«list.sort» ⟨[.ref a], []⟩) P E s := by
 rw [list_sort_plain]
 have hl' : vs.toArray.size <= sizeLine := by simpa using hl
 refine wpAny_bind (wpAny_listItems hg rfl ?_)
 refine wpAny_bind (m := Builtin.List.listUpdate (.ref a) fun _ => #[]) (wpAny_updateSeq hg rfl ?_ hl' (Nat.zero_le _))
 have hg1 : (s.heap.update a (Obj.mapSeq fun _ => #[])).get? a = some (Obj.mapSeq (fun _ => #[]) (seqObj "list" vs.toArray n)) := Heap.get?_update_self _ hg rfl
 refine wpAny_bind (m := seqEpoch a) (wp_epoch hg1 rfl ?_)
 refine wpAny_bind (wpAny_newTuple ?_ (by simpa using hl))
 refine wpAny_bind (wpAny_newList ?_ (Nat.zero_le _))
 refine wpAny_holding ?_
 have hg2 : (sHp s.heap a vs).get? a = some (Obj.mapSeq (fun _ => #[]) (seqObj "list" vs.toArray n)) := Heap.get?_push_of_some _ (Heap.get?_push_of_some _ hg1)
 by_cases h2 : vs.toArray.size < 2
 ·rw [if_pos h2]
  refine wpAny_bind (wpAny_pure ?_)
  rw [if_pos h2]
  have hst := fin (vs.toArray.zip vs.toArray) (.refl _) (fun i j h1 h3 => by
   have : (pairsOf vs).size < 2 := by rw [pairsOf_size]; simpa using h2
   rw [show i = j by omega]; exact KeyOrd.kle_refl _)
  have hz : ((vs.toArray.zip vs.toArray).map (·.2)).size <= sizeLine + 1 := by simp; omega
  refine wpAny_bind (m := StateT.run (pure ()) _) (wpAny_pure ?_)
  refine wpAny_bind (m := seqEpoch a) (wp_epoch hg2 rfl ?_)
  refine wpAny_bind (m := Builtin.List.listUpdate (.ref a) _) (wpAny_updateSeq hg2 rfl ?_ (Nat.zero_le _) hz)
  show wpAny (model prog w) A (if (_ != _) = true then _ else ret Value.none) P E _
  rw [if_neg (by simp)]
  exact wpAny_pure hst
 ·rw [if_neg h2]
  have h2' : 2 <= vs.length := by simpa using h2
  refine wpAny_bind ?_
  refine hk h2' _ ?_
  rw [if_neg h2]
  have hs : SB (pairsOf vs) kd (SortSt.mk' kd (vs.toArray.zip vs.toArray) #[] 7 none) := ⟨.refl _, rfl, rfl⟩
  refine wpAny_bind (wpAny_mono (wp_runs hc hs rfl (Q := fun _ st' => (arrOf st').Perm (pairsOf vs) /\ failedOf st' = none /\ SortedToK κ (arrOf st') (pairsOf vs).size) fun st' a b c => ⟨a, b, c⟩) ?_ fun _ _ h => h)
  rintro ⟨_, st'⟩ s' ⟨rfl, p1, p2, p3⟩
  have hst := fin (arrOf st') p1 p3
  have hz : ((arrOf st').map (·.2)).size <= sizeLine + 1 := by
   have := p1.size_eq; rw [pairsOf_size] at this; rw [Array.size_map, this]; omega
  refine wpAny_bind (m := seqEpoch a) (wp_epoch hg2 rfl ?_)
  refine wpAny_bind (m := Builtin.List.listUpdate (.ref a) _) (wpAny_updateSeq hg2 rfl ?_ (Nat.zero_le _) hz)
  rw [p2]
  show wpAny (model prog w) A (if (_ != _) = true then _ else ret Value.none) P E _
  rw [if_neg (by simp)]
  exact wpAny_pure hst
def intKind : PyProof.Rows.KeyKind where
 α := Int
 blt := fun a b => decide (a < b)
 irrefl := fun a => by simp
 trans := fun a b c h1 h2 => by simp at h1 h2 ⊢; omega
 negTrans := fun a b c h => by simp at h ⊢; omega
 total := fun a b h1 h2 => by simp at h1 h2; omega
 keyOf := fun v => match v with | .int n _ => some n | _ => none
 dflt := 0
theorem ints_mem : ∀ {vs : List Value} {ns : List Int}, IntsAre vs ns -> ∀ v, v ∈ vs -> ∃ n t, v = .int n t
 | _, _, .nil, v, h => by cases h
 | _, _, .cons n t r, v, h => by
  rcases List.mem_cons.mp h with e | h
  ·exact ⟨n, t, e⟩
  ·exact ints_mem r v h
theorem CL_ints {s : Shared} {vs : List Value} {ns : List Int} (h : IntsAre vs ns) : CL (model prog w) A E s (pairsOf vs) intKind oneType' := by
 have hm : ∀ x : Keyed, x ∈ (pairsOf vs).toList -> ∃ n t, x.1 = .int n t := fun x hx => by
  rw [pairsOf_toList] at hx
  exact ints_mem h _ (List.of_mem_zip hx).1
 intro x y hx hy st Q hk q
 obtain ⟨n, t, e1⟩ := hm x hx
 obtain ⟨m, u, e2⟩ := hm y hy
 rw [lt'_eq]
 refine wpS_bind (wpS_get ?_)
 rw [hk, keyLt'_oneType, e1, e2]
 refine wpS_bind (wpS_lift (wpAny_attempt (oneLt_int ⟨rfl, wpS_pure ?_⟩)))
 have k1 : ky intKind x = n := by unfold ky; rw [e1]; rfl
 have k2 : ky intKind y = m := by unfold ky; rw [e2]; rfl
 rw [k1, k2] at q
 exact q
theorem KK_int {xs : Array Keyed} {i : Nat} : KK intKind xs i = K xs i := by
 unfold KK K
 rcases xs[i]? with _ | ⟨v, q⟩
 ·rfl
 ·cases v <;> rfl
theorem list_sort_any {a : Addr} {vs : List Value} {ns : List Int} {n : Nat} {P : PySem.Fin -> Shared -> Prop} (hg : s.heap.get? a = some (seqObj "list" vs.toArray n)) (hl : vs.length <= sizeLine) (hv : IntsAre vs ns)
  (fin : ∀ (out : Array Value) (ns' : List Int), IntsAre out.toList ns' -> ns'.Perm ns -> ns'.Pairwise (· <= ·) -> P (.done (.ret .none)) { s with heap := sortedHeap s.heap a vs out }) : wpAny (model prog w) A (Builtin.«list.sort» ⟨[.ref a], []⟩) P E s := by
 refine list_sort_G (κ := intKind) (kd := oneType') hg hl (fun h2 Q q => ?_) (CL_ints hv) fun xs p1 p2 => ?_
 ·match vs, hv, h2 with
  | v₁ :: v₂ :: rest, hv, _ =>
   rw [keyKind_ints hv]
   exact wpAny_pure q
 ·have st : SortedTo xs (pairsOf vs).size := fun i j h1 h2 => by
   have := p2 i j h1 h2
   rw [KK_int, KK_int] at this
   simpa [KeyOrd.kle, intKind] using this
  obtain ⟨ns', a1, a2, a3⟩ := sorted_out hv p1 st
  exact fin _ ns' a1 a2 a3
end
end TS
end
section
section
variable {prog : Program} {w : World} {A : Around} {E : Value -> Shared -> Prop} {s : Shared}
end
section
variable {prog : Program} {w : World} {A : Around} {E : Value -> Shared -> Prop} {s : Shared} {a : Addr}
variable {S : Int -> Bool} {n ep : Nat} {led : Bool} {o : Obj} {fs : Array (Int × Value)} {u : SetTable}
theorem sortedSetA (hh : A.handled = none) (G : SG prog w s.heap a S n led o fs ep u) (hled : led = ledOf w) (D : List Int) (hS : ∀ k, S k = D.any (· == k)) (hn : n = D.length) (hd : D.Nodup) (h64 : n < 4096) {Q : Value -> Shared -> Prop}
  (fin : ∀ (q : Addr) h' d out e, IntsAre out.toList (isort D) -> h'.get? q = some (seqObj "list" out e) -> s.heap.objs.size <= q -> (∀ b o, b < s.heap.objs.size -> s.heap.get? b = some o -> h'.get? b = some o) -> Q (.ref q) { s with heap := h', drawn := d }) :
  wpAny (model prog w) A (call (.builtin "sorted") [.ref a]) Q E s := by
 obtain ⟨ks, hk1, hk2⟩ := ints_of G.el
 have hkl : ks.length = D.length := by rw [<- hn, <- G.many, <- IntsAre.length hk1]; simp
 have hkp : D.Perm ks := perm_of_sub hd (fun x hx => (hk2 x).mpr ((G.mem x).mp (by rw [hS]; exact List.any_eq_true.mpr ⟨x, hx, by simp⟩))) hkl.symm
 refine Calls.call_function_entry kind_sorted plain_sorted entry_sorted (args_sorted1 _) ?_
 unfold Builtin.«sorted»
 refine wpAny_bind (m := checkCount "sorted" 1 1 _) (wpAny_pure ?_)
 refine wpAny_bind (collectSet (by simpa using hh) G hled fun ws h' d hp keep hsz => ?_)
 obtain ⟨ms, hm1, hm2⟩ := ints_perm hp hk1
 have hwl : ws.length < 4096 := by rw [hp.length_eq, length_map, Array.length_toList, G.many]; exact h64
 refine wpAny_bind (wpAny_newList ?_ (by rw [sizeLine_eq]; omega))
 have hoL : (h'.push (seqObj "list" ws.toArray 0)).get? h'.objs.size = some (seqObj "list" ws.toArray 0) := Heap.get?_push_size _ rfl
 show wpAny _ _ _ _ _ { s with heap := h'.push (seqObj "list" ws.toArray 0), drawn := d }
 refine wpAny_bind (wpAny_holding (wpAny_call_entry slot_list_sort ⟨_, hoL, rfl⟩ entry_list_sort (TS.list_sort_any hoL (by rw [sizeLine_eq]; omega) hm1 fun out ns' a1 a2 a3 => ⟨_, rfl, ?_⟩) (args_list_sort _)))
 have e : ns' = isort D := sorted_uniq ((a2.trans (hm2.trans hkp.symm)).trans (isort_perm D).symm) a3 (isort_sorted D)
 subst e
 obtain ⟨c, hc⟩ := sortedHeap_at (out := out) hoL
 refine wpAny_pure ⟨_, rfl, fin _ _ d out c a1 hc (Nat.le_of_lt hsz) fun b o hb e => ?_⟩
 rw [sortedHeap_old (Nat.ne_of_lt (Nat.lt_trans hb hsz)) (by rw [size_push']; exact Nat.lt_succ_of_lt (Nat.lt_trans hb hsz))]
 exact Heap.get?_push_of_some _ (keep b o hb e)
end
section
variable {X : Cx} {e : Expr} {pos : Pos}
end
def rSetA (P : Program) (w : World) (K : W.Frag) : List V -> Hp -> VK -> Prop := fun vs H Q => ∃ (p : Addr) (ns : List Int), vs = [.ref p] /\ SqL K H p (ns.map V.int) /\ ns.length < 4000 /\ ∀ a, H a = none -> Q (.ref a) (upd H a (SetH P w a ns))
def rSortSA (P : Program) (w : World) : List V -> Hp -> VK -> Prop := fun vs H Q => ∃ (a : Addr) (ns : List Int), vs = [.ref a] /\ H a = some (SetH P w a ns) /\ ns.length < 4000 /\ ∀ q, H q = none -> Q (.ref q) (upd H q (.lst ((isort (ddI ns)).map V.int)))
section
variable {X : Cx} {e : Expr} {pos : Pos}
theorem call_setLA (hc : X.calm = true) : CallR X (.type "set") (rSetA X.prog X.w X.K) := by
 intro pins s σ H xs us Q I r h
 obtain ⟨p, ns, rfl, sq, h64, q⟩ := h
 obtain ⟨v, rfl, rx⟩ := vals1 r
 cases rx
 obtain ⟨its, vr, pl, hz⟩ := I.list sq
 have hl : its.length = ns.length := by rw [<- vr.length, length_map]
 have hsz : its.toArray.size = ns.length := by simp [hl]
 refine callSetG (items := its.toArray) (ns := ns) (I.ok.hd hc) pl.isList (by simpa using ints_vals vr) (by rw [hsz]; unfold scanBound; omega) fun h' tk g keep => ?_
 rw [hsz] at g
 refine ⟨.ref s.heap.objs.size, _, I.laid (t' := tk) (o := SetH X.prog X.w s.heap.objs.size ns) (fun b u e => keep b u (Heap.lt_size e) e) (Nat.le_refl _) ⟨g, ?_, fun h1 h2 g1 k => SetG.stay g1 k⟩, rfl, q _ (I.hok.fresh (Nat.le_refl _))⟩
 obtain ⟨o, _, _, _, G⟩ := g
 exact ⟨o, G.at_⟩
theorem call_sortSA (hc : X.calm = true) : CallR X (.builtin "sorted") (rSortSA X.prog X.w) := by
 intro pins s σ H xs us Q I r h
 obtain ⟨a, ns, rfl, ha, h64, q⟩ := h
 obtain ⟨v, rfl, rx⟩ := vals1 r
 cases rx
 have ok := I.hok a _ ha
 obtain ⟨g, _, _⟩ := ok
 obtain ⟨o, fs, ep, u, G⟩ := g
 have hle : (ddI ns).length <= ns.length := firstMet_length_le _ _
 refine sortedSetA (I.ok.hd hc) G rfl (ddI ns) (fun k => rfl) rfl (firstMet_nodup _ _) (by omega) fun w h' d out e hi hw hlt keep => ?_
 have I' : Inv X pins σ H { s with drawn := d } := ⟨I.ok, I.os, I.bare, I.base, I.loc, I.cell, I.free, I.freeC, I.pin, I.hok, I.len⟩
 refine ⟨.ref w, _, I'.laid (t' := s.toks) (o := .lst ((isort (ddI ns)).map V.int)) (fun b u e => keep b u (Heap.lt_size e) e) hlt ⟨?_, out.toList, e, vals_intsA hi, by simpa using hw⟩, rfl, q _ (I.hok.fresh hlt)⟩
 rw [length_map, isort_length, sizeLine_eq]; omega
@[irreducible] def msortSetA (m : ML) : ML := fun ρ => match m ρ with | some ds => (match intsD ds with | some ns => if ns.length < 4000 then some ((isort (ddI ns)).map .int) else none | none => none) | none => none
theorem pf_sortSetA {p p2 pos2 : Pos} {m : ML} (hc : X.calm = true) (hg : Gl X "sorted") (hm : X.mg "sorted" = none) (hg2 : Gl X "set") (hm2 : X.mg "set" = none) (ha : PB X e m) (hv : bootBuiltins "sorted" = some (.builtin "sorted")) (hv2 : bootBuiltins "set" = some (.type "set"))
  (hs : starEach (e :: []) X.env = (false, eval e X.env) :: starEach [] X.env := by rfl) (he : starEach [e] X.env = (false, eval e X.env) :: starEach [] X.env := by rfl)
  (hs2 : starEach ((.Call (.Name "set" p2) [e] [] pos2) :: []) X.env = (false, eval (.Call (.Name "set" p2) [e] [] pos2) X.env) :: starEach [] X.env := by rfl) (he2 : starEach [(.Call (.Name "set" p2) [e] [] pos2)] X.env = (false, eval (.Call (.Name "set" p2) [e] [] pos2) X.env) :: starEach [] X.env := by rfl)
  (hpl2 : (backTo pos2 (starEach [] X.env)).any (·.1) = false := by rfl) (hpl : (backTo pos (starEach [] X.env)).any (·.1) = false := by rfl) : PF X (.Call (.Name "sorted" p) [.Call (.Name "set" p2) [e] [] pos2] [] pos) (msortSetA m) :=
 (pe_callB (call_sortSA hc) hg hm hv (pa_cons (pe_callTy (call_setLA hc) hg2 hm2 hv2 (pa_cons ha pa_nil hs) (by decide) (by decide) he hpl2) pa_nil hs2) (by decide) (by decide) he2 hpl).imp fun σ H Q hpat => by
  obtain ⟨F0, H0, F, ρ, g, rl, e, q⟩ := hpat
  unfold msortSetA at e
  cases h1 : m ρ with
  | none => simp only [h1] at e; cases e
  | some ds =>
   simp only [h1] at e
   cases h2 : intsD ds with
   | none => simp only [h2] at e; cases e
   | some ns =>
    simp only [h2] at e
    split at e
    ·rename_i h64
     cases e
     refine ⟨F0, H0, F, ρ, ds, rl, h1, fun p xs F1 H1 x1 s1 r1 => ⟨p, ns, rfl, ?_, h64, fun a hna => ⟨a, ns, rfl, upd_same, h64, fun w hw => ?_⟩⟩⟩
     ·rw [<- intsD_reps r1 h2]; exact s1
     ·have x2 : Ext F1 H1 F1 (upd H1 a (SetH X.prog X.w a ns)) := Ext.own x1.fh hna
      have hw1 : H1 w = none := x2.hh.free hw
      exact q w _ F1 _ (x1.trans (x2.trans (Ext.own x2.fh hw))) (x1.hh.free hw1) (x1.fh.free hw1) upd_same (reps_ints _)
    ·cases e
end
end
end L2
set_option maxHeartbeats 4000000
namespace Lw
open List
open PySem L2
section
noncomputable section
def b_Z4_f0 : MS := (mseq (mif (cor (mtest (m2 ltD (mvar 3) (mvar 2))) (mtest (m2 geD (mvar 3) (mlen (bvar 0))))) (mret (mc (.bl false))) mnext) (mset 2 (m2 addD (mvar 3) (mc (.int 1)))))
def b_Z4 : MS := (mseq (mset 2 (mc (.int 0))) (mseq (mfor (aslst (mvar 1)) (.nm 3) b_Z4_f0) (mret (mc (.bl true)))))
def m_Z4 : MF := runB 4 b_Z4
def b_Z7_f0 : MS := (mif (cor (mtest (m2 ltD (call1 max2F (acons (mvar 2) (acons (mvar 4) anil))) (mvar 3))) (mtest (m2 ltD (mvar 3) (call1 min2F (acons (mvar 2) (acons (mvar 4) anil)))))) (maug 1 (mc (.int 1))) mnext)
def b_Z7 : MS := (mseq (mset 1 (mc (.int 0))) (mseq (mfor (mlist zip3 (acons (mvar 0) (acons (mlst (mcut (bvar 0) (osome (mc (.int 1))) onone)) (acons (mlst (mcut (bvar 0) (osome (mc (.int 2))) onone)) anil)))) (.tp [2, 3, 4]) b_Z7_f0) (mretO 1)))
def m_Z7 : MF := runB 5 b_Z7
def b_Z1 : MS := (mseq (mif (cnot (mtru (mcall m_Z4 (acons (mvar 0) (acons (mvar 1) anil))))) mnever mnext) (mret (mcall m_Z7 (acons (mlst (mcomp [none, some 0] (aslst (mvar 1)) (.nm 0) cyes (mix (bvar 1) (mvar 0)))) anil))))
def m_Z1 : MF := runB 2 b_Z1
def bx_Z1 : MXs := (xif (cnot (mtru (mcall m_Z4 (acons (mvar 0) (acons (mvar 1) anil))))) (xraise "NoPlace" (acons (mc (.str "places rise, from 0 on and below how many numbers there are")) anil)) xnone)
def xm_Z1 : MFX := runX 2 bx_Z1
def b_Z8 : MS := (mseq (mif (mtest (m2 geD (mvar 0) (m2 powD (mc (.int 10)) (mc (.int 18))))) (mret (m2 modD (m2 shrD (m2 subD (mvar 0) (m2 powD (mc (.int 10)) (mc (.int 18)))) (m2 mulD (mc (.int 28)) (mvar 1))) (m2 powD (mc (.int 2)) (mc (.int 28))))) mnext) (mseq (mset 2 (m2 modD (m2 mulD (m2 addD (m2 addD (mvar 0) (m2 mulD (mc (.int 1013)) (mvar 1))) (mc (.int 1))) (mc (.int 16807))) (mc (.int 2147483647)))) (mseq (mset 2 (m2 modD (m2 mulD (mvar 2) (mvar 2)) (mc (.int 2147483629)))) (mret (m2 fdivD (m2 modD (m2 mulD (mvar 2) (mc (.int 39373))) (mc (.int 2147483587))) (mc (.int 8)))))))
def m_Z8 : MF := runB 3 b_Z8
def b_Z5 : MS := (mretF (mcut (mcat (mcut (bvar 0) onone (osome (mvar 1))) (sized (acons (mc (.int 0)) anil))) onone (osome (call1 max2F (acons (mc (.int 1)) (acons (call1 min2F (acons (mvar 1) (acons (mlen (bvar 0)) anil))) anil))))))
def m_Z5 : MF := runB 2 b_Z5
def b_Z11_f0 : MS := (mseq (mset 9 (m2 modD (mcall m_Z8 (acons (mvar 0) (acons (m2 addD (mc (.int 10)) (mvar 8)) anil))) (mvar 4))) (mseq (mset 7 (m2 subD (m2 addD (mvar 7) (mvar 9)) (m2 fdivD (mvar 4) (mc (.int 2))))) (mseq (mset 10 (mlst (sized (acons (m2 subD (mvar 9) (m2 fdivD (mvar 4) (mc (.int 2)))) (acons (m2 addD (mvar 8) (m2 fdivD (mvar 9) (mc (.int 2)))) (acons (m2 subD (m2 subD (mc (.int 0)) (mvar 8)) (m2 fdivD (mvar 9) (mc (.int 2)))) (acons (mix (sized (acons (mvar 9) (acons (m2 subD (mc (.int 0)) (mvar 9)) anil))) (m2 modD (mvar 8) (mc (.int 2)))) anil))))))) (mseq (mset 10 (mlst (mcat (bvar 10) (sized (acons (m2 addD (mvar 9) (m2 mulD (m2 modD (m2 fdivD (mvar 8) (mvar 5)) (mc (.int 2))) (mvar 4))) (acons (mvar 4) (acons (m2 addD (m2 mulD (m2 subD (mvar 9) (m2 fdivD (mvar 4) (mc (.int 2)))) (m2 powD (mc (.int 10)) (mc (.int 23)))) (m2 modD (mcall m_Z8 (acons (mvar 0) (acons (m2 addD (mc (.int 10)) (mvar 8)) anil))) (mc (.int 3)))) anil))))))) (mapp 6 (mix (mcat (bvar 10) (sized (acons (mvar 7) anil))) (mvar 3)))))))
def b_Z11 : MS := (mseq (mset 2 (m2 modD (mcall m_Z8 (acons (mvar 0) (acons (mc (.int 0)) anil))) (mix (sized (acons (mc (.int 4)) (acons (mc (.int 13)) (acons (mc (.int 41)) (acons (m2 addD (mvar 1) (mc (.int 1))) anil))))) (m2 modD (mcall m_Z8 (acons (mvar 0) (acons (mc (.int 1)) anil))) (mc (.int 4)))))) (mseq (mset 3 (m2 modD (mcall m_Z8 (acons (mvar 0) (acons (mc (.int 2)) anil))) (mc (.int 8)))) (mseq (mset 4 (mix (sized (acons (mc (.int 2)) (acons (mc (.int 5)) (acons (mc (.int 50)) (acons (m2 powD (mc (.int 10)) (mc (.int 6))) anil))))) (m2 modD (mcall m_Z8 (acons (mvar 0) (acons (mc (.int 3)) anil))) (mc (.int 4))))) (mseq (mset 5 (m2 addD (mc (.int 1)) (m2 modD (mcall m_Z8 (acons (mvar 0) (acons (mc (.int 4)) anil))) (mc (.int 9))))) (mseq (msetF 6 (sized anil)) (mseq (mset 7 (mc (.int 0))) (mseq (mfor (mlist rng1 (acons (call1 min2F (acons (mvar 2) (acons (mvar 1) anil))) anil)) (.nm 8) b_Z11_f0) (mretO 6))))))))
def m_Z11 : MF := runB 11 b_Z11
def b_Z6 : MS := (mseq (mset 1 (mlst (sized (acons (misX [("NoPlace", false)] (mvar 0)) (acons (misX [("NoPlace", true)] (mvar 0)) (acons (misX [("NoPlace", false)] (mvar 0)) (acons (misX [("NoPlace", false)] (mvar 0)) anil))))))) (mseq (mset 1 (mlst (mcat (bvar 1) (sized (acons (misX [("NoPlace", false)] (mvar 0)) (acons (misX [("NoPlace", false)] (mvar 0)) (acons (misX [("NoPlace", false)] (mvar 0)) anil))))))) (mretF (mcat (bvar 1) (sized (acons (m1 notD (misX [("NoPlace", true)] (mvar 0))) anil))))))
def m_Z6 : MF := runB 2 b_Z6
def b_Z10 : MS := (mret (mix (sized (acons (mc (.int 0)) (acons (mc (.int 1)) (acons (m2 modD (mcall m_Z8 (acons (mvar 0) (acons (m2 addD (mvar 1) (mc (.int 1))) anil))) (mc (.int 1000))) (acons (m2 powD (mc (.int 10)) (mc (.int 29))) anil))))) (m2 modD (mcall m_Z8 (acons (mvar 0) (acons (mvar 1) anil))) (mc (.int 4)))))
def m_Z10 : MF := runB 2 b_Z10
def b_Z9_f0 : MS := (mseq (mset 5 (m2 andD (m2 shrD (mcall m_Z8 (acons (mvar 0) (acons (m2 addD (m2 addD (mvar 1) (mc (.int 1))) (m2 fdivD (mvar 4) (mc (.int 28)))) anil))) (m2 modD (mvar 4) (mc (.int 28)))) (mc (.int 1)))) (mseq (mif (mtest (m2 gtD (m2 modD (mcall m_Z8 (acons (mvar 0) (acons (mvar 1) anil))) (mc (.int 3))) (mc (.int 0)))) (mset 5 (m2 mulD (mvar 5) (m2 andD (m2 shrD (mcall m_Z8 (acons (mvar 0) (acons (m2 addD (m2 addD (mvar 1) (mc (.int 13))) (m2 fdivD (mvar 4) (mc (.int 28)))) anil))) (m2 modD (mvar 4) (mc (.int 28)))) (mc (.int 1))))) mnext) (mif (mtest (m2 eqSD (mvar 5) (mc (.int 1)))) (mapp 3 (mvar 4)) mnext)))
def b_Z9 : MS := (mseq (msetF 3 (sized anil)) (mseq (mfor (mlist rng1 (acons (mvar 2) anil)) (.nm 4) b_Z9_f0) (mretO 3)))
def m_Z9 : MF := runB 6 b_Z9
def b_Z2_f0 : MS := (mseq (mset 8 (mand (m2 eqSD (m2 andD (m2 shrD (mcall m_Z8 (acons (mvar 0) (acons (m2 addD (mvar 1) (m2 fdivD (mvar 6) (mc (.int 28)))) anil))) (m2 modD (mvar 6) (mc (.int 28)))) (mc (.int 1))) (mc (.int 1))) (m2 gtD (m2 modD (mvar 6) (mc (.int 3))) (mc (.int 0))))) (mif (cand (mtest (meqB false (bvar 4) (sized anil))) (cnot (mtru (mvar 8)))) (mapp 4 (mvar 6)) (mif (cand (mtest (meqB true (bvar 4) (sized anil))) (cnot (mtru (mvar 8)))) (mseq (mset 9 (m2 subD (mvar 7) (mix (bvar 2) (mix (bvar 4) (m1 negD (mc (.int 1))))))) (mif (cand (mtest (m2 geD (call1 absF (acons (mvar 9) anil)) (mvar 3))) (mtest (m2 neSD (mvar 5) (m2 gtD (mvar 9) (mc (.int 0)))))) (mseq (mset 5 (m2 gtD (mvar 9) (mc (.int 0)))) (mapp 4 (mvar 6))) mnext)) mnext)))
def b_Z2 : MS := (mseq (msetF 4 (sized anil)) (mseq (mset 5 (mc .non)) (mseq (mfor (mlist enum1 (acons (mvar 2) anil)) (.tp [6, 7]) b_Z2_f0) (mretO 4))))
def m_Z2 : MF := runB 10 b_Z2
def b_Z0_f0 : MS := (mseq (mapp 8 (mlst (mcat (mcat (mcut (bvar 2) onone (osome (mvar 4))) (sized (acons (mvar 9) anil))) (mcut (bvar 2) (osome (mvar 4)) onone)))) (mapp 8 (mlst (mcat (mcat (mcut (bvar 2) onone (osome (mvar 4))) (sized (acons (mvar 9) anil))) (mcut (bvar 2) (osome (m2 addD (mvar 4) (mc (.int 1)))) onone)))))
def b_Z0_r1 : MS := (mfreeze 8 (mseq (msetF 10 (bvar 2)) (mseq (mif (mtest (m2 ltD (call1 max2F (acons (mvar 4) (acons (mvar 5) anil))) (mlen (bvar 2)))) (msetix2 10 (mvar 4) (mvar 5) (mtup (acons (mix (bvar 2) (mvar 5)) (acons (mix (bvar 2) (mvar 4)) anil)))) mnext) (mfreeze 10 (mretF (mcat (bvar 8) (sized (acons (mvar 10) (acons (mlst (sized anil)) anil)))))))))
def b_Z0 : MS := (mseq (mset 4 (m2 modD (mcall m_Z8 (acons (mvar 0) (acons (mvar 1) anil))) (m2 addD (mlen (bvar 2)) (mc (.int 1))))) (mseq (mset 5 (m2 modD (mcall m_Z8 (acons (mvar 0) (acons (m2 addD (mvar 1) (mc (.int 1))) anil))) (m2 addD (mlen (bvar 2)) (mc (.int 1))))) (mseq (mset 6 (mcall m_Z10 (acons (mvar 0) (acons (m2 addD (mvar 1) (mc (.int 2))) anil)))) (mseq (mset 7 (m2 modD (mcall m_Z8 (acons (mvar 0) (acons (m2 addD (mvar 1) (mc (.int 4))) anil))) (m2 addD (mvar 3) (mc (.int 1))))) (mseq (msetF 8 (sized (acons (mlst (mcat (mcut (bvar 2) onone (osome (mvar 4))) (mcut (bvar 2) (osome (m2 addD (mvar 4) (mc (.int 1)))) onone))) (acons (mlst (mcat (mcat (mcut (bvar 2) onone (osome (mvar 4))) (mcut (bvar 2) (osome (m2 subD (mvar 4) (mc (.int 1)))) (osome (mvar 4)))) (mcut (bvar 2) (osome (mvar 4)) onone))) (acons (mlst (mrev (bvar 2) (osome (m1 negD (mc (.int 1)))))) anil))))) (mseq (mfor (aslst (mlst (sized (acons (mvar 7) (acons (m1 negD (mc (.int 1))) (acons (m2 subD (m1 negD (mc (.int 1))) (mvar 6)) (acons (mvar 3) (acons (m2 addD (mvar 3) (mvar 6)) anil)))))))) (.nm 9) b_Z0_f0) b_Z0_r1))))))
def m_Z0 : MF := runB 11 b_Z0
def b_Z3 : MS := (mseq (msetF 2 (sized anil)) (mseq (mset 3 (mlst (sized (acons (mlst (bvar 0)) (acons (mlst (bvar 1)) anil))))) (mseq (mtry ["NoPlace"] (mexpr (mcall m_Z1 (acons (mix (bvar 3) (mc (.int 0))) (acons (mix (bvar 3) (mc (.int 1))) anil)))) (xE (xcall xm_Z1 (acons (mix (bvar 3) (mc (.int 0))) (acons (mix (bvar 3) (mc (.int 1))) anil)))) 4 (msetF 2 (mcallF m_Z6 (acons (mvar 4) anil)))) (mseq (mif (mtest (meqB true (bvar 3) (sized (acons (mvar 0) (acons (mvar 1) anil))))) (mretF (sized (acons (mc (.str "changed")) anil))) mnext) (mretO 2)))))
def m_Z3 : MF := runB 5 b_Z3
def b_Z12_f0 : MS := (mseq (mset 5 (mlst (mcomp [none, some 2] (aslst (mvar 4)) (.nm 0) (cnot (mtest (mchain leD ltD (mc (.int 0)) (mvar 0) (mlen (bvar 1))))) (mvar 0)))) (mseq (mset 6 (mand (meqB false (bvar 4) (msortSetA (bvar 4))) (meqB false (bvar 5) (sized anil)))) (mif (mtest (meqB true (aslst (mcall m_Z3 (acons (mvar 2) (acons (mvar 4) anil)))) (mcomp [none] (mlist rng1 (acons (m2 mulD (mc (.int 8)) (call1 intF (acons (m1 notD (mvar 6)) anil))) anil)) (.nm 0) cyes (m2 eqSD (mvar 0) (mc (.int 1)))))) (mret (mc (.bl false))) mnext)))
def b_Z12_f1 : MS := (mfor (aslst (mlst (mcat (sized (acons (mvar 3) anil)) (aslst (mcall m_Z0 (acons (mvar 1) (acons (mc (.int 370)) (acons (mvar 3) (acons (mlen (bvar 2)) anil))))))))) (.nm 4) b_Z12_f0)
def b_Z12_f2 : MS := (mseq (mset 2 (mcall m_Z11 (acons (mvar 1) (acons (mc (.int 300)) anil)))) (mfor (aslst (mlst (sized (acons (mcall m_Z9 (acons (mvar 1) (acons (mc (.int 320)) (acons (mlen (bvar 2)) anil)))) (acons (mcall m_Z2 (acons (mvar 1) (acons (mc (.int 350)) (acons (mvar 2) (acons (mc (.int 1)) anil))))) anil))))) (.nm 3) b_Z12_f1))
def b_Z12 : MS := (mseq (mfor (aslst (mcall m_Z5 (acons (mvar 0) (acons (mc (.int 8)) anil)))) (.nm 1) b_Z12_f2) (mret (mc (.bl true))))
def m_Z12 : MF := runB 7 b_Z12
end
end
section
theorem eqS_ii (i j : Int) : eqS (.int i) (.int j) = some (i == j) := rfl
theorem eqS_bb (i j : Bool) : eqS (.bl i) (.bl j) = some (i == j) := rfl
theorem eqS_ss (i j : Str) : eqS (.str i) (.str j) = some (i == j) := rfl
theorem eqS_nn : eqS .non .non = some true := rfl
theorem eqS_nb (j : Bool) : eqS .non (.bl j) = some false := rfl
theorem eqS_bn (j : Bool) : eqS (.bl j) .non = some false := rfl
theorem eqS_ni (j : Int) : eqS .non (.int j) = some false := rfl
theorem eqS_in (j : Int) : eqS (.int j) .non = some false := rfl
local macro_rules | `(tactic| simp_arith [$ls,*]) => `(tactic| simp (config := {decide := true, implicitDefEqProofs := false}) only [runB, startS, map_cons, map_nil, length_cons, length_nil, List.replicate, cons_append, nil_append, mvar, bvar, mc, mlst, aslst, m2, mtest, subD, mulD, fdivD, modD, powD, shrD, andD, ltD, leD, gtD, geD, eqSD, neSD, eqS_ii, eqS_bb, eqS_ss, eqS_nn, eqS_nb, eqS_bn, eqS_ni, eqS_in, m1, negD, notD, mand, mtru, truD, cand, cor, cnot, anil, acons, sized, mtup, mlen, mix, onone, osome, mcut, mcat, addD, call1, absF, max2F, min2F, two2, intF, mnext, mseq, mif, mnever, mset, msetF, maug, mexpr, mret, mretF, mretO, mapp, msetix, mfreeze, mlist, zip3, enum1, cyes, mcall, mcallF, meqB, mrev, msetix2, int2, bl2, tgD, setAll, Option.bind_some, Option.map_some, Option.bind_none, Option.map_none, getElem?_cons_zero, getElem?_cons_succ, set_cons_zero, set_cons_succ, isEmpty_cons, isEmpty_nil, Bool.not_true, Bool.not_false, $ls,*])
def stir (c k : Int) : Int := if 10 ^ 18 <= c then (c - 10 ^ 18) / 2 ^ (28 * k).toNat % 2 ^ 28 else
 (((c + 1013 * k + 1) * 16807 % 2147483647) * ((c + 1013 * k + 1) * 16807 % 2147483647) % 2147483629) * 39373 % 2147483587 / 8
theorem stir_nonneg (c k : Int) : 0 <= stir c k := by
 unfold stir
 split
 ·exact Int.emod_nonneg _ (by decide)
 ·exact Int.ediv_nonneg (Int.emod_nonneg _ (by decide)) (by decide)
theorem mulOk_r (i j : Int) (h1 : -(2 ^ 64) < j) (h2 : j < 2 ^ 64) : mulOk i j = true := by
 unfold mulOk; simp only [h1, h2, decide_true, Bool.and_self, Bool.or_true]
theorem mulOk_l (i j : Int) (h1 : -(2 ^ 64) < i) (h2 : i < 2 ^ 64) : mulOk i j = true := by
 unfold mulOk; simp only [h1, h2, decide_true, Bool.and_self, Bool.true_or]
theorem modOk_of (i j : Int) (h : 0 < j) : modOk i j = true := by unfold modOk; simp only [h, decide_true]
theorem seqI {x y : MS} {ρ ρ' : Ro} {o : Option Out} (h : x ρ = some (.nx ρ')) (h2 : y ρ' = o) : mseq x y ρ = o := by
 unfold mseq; rw [h]; exact h2
def stepO {α : Type} (I : List α -> Ro -> Prop) (Q : Out -> Prop) (ds : List α) : Out -> Prop
 | .nx ρ => I ds ρ | .ct ρ => I ds ρ | .bk ρ => Q (.nx ρ) | .rt d => Q (.rt d) | .rf es => Q (.rf es) | .rp d es => Q (.rp d es) | .rg d p r => Q (.rg d p r) | .rgf d p r => Q (.rgf d p r)
theorem forD_post {α : Type} {g : Tg} {body : MS} {f : α -> D} (I : List α -> Ro -> Prop) (Q : Out -> Prop)
  (hs : ∀ d ds ρ, I (d :: ds) ρ -> ∃ ρ1 o, tgD g (f d) ρ = some ρ1 /\ body ρ1 = some o /\ stepO I Q ds o) (hd : ∀ ρ, I [] ρ -> Q (.nx ρ)) :
  ∀ (ds : List α) (ρ : Ro), I ds ρ -> ∃ o, forD g body (ds.map f) ρ = some o /\ Q o
 | [], ρ, h => ⟨.nx ρ, rfl, hd ρ h⟩
 | d :: ds, ρ, h => by
  obtain ⟨ρ1, o, h1, h2, h3⟩ := hs d ds ρ h
  rw [map_cons]
  unfold forD
  rw [h1]
  simp only [h2]
  cases o with
  | nx ρ2 => exact forD_post I Q hs hd ds ρ2 h3
  | ct ρ2 => exact forD_post I Q hs hd ds ρ2 h3
  | bk ρ2 => exact ⟨_, rfl, h3⟩
  | rt d => exact ⟨_, rfl, h3⟩
  | rf d => exact ⟨_, rfl, h3⟩
  | rp d es => exact ⟨_, rfl, h3⟩
  | rg d p r => exact ⟨_, rfl, h3⟩
  | rgf d p r => exact ⟨_, rfl, h3⟩
theorem compD_map {α : Type} {g : Tg} {c : MB} {elt : ME} {f : α -> D} {G : α -> D} (I : List α -> Ro -> Prop)
  (hs : ∀ d ds ρ, I (d :: ds) ρ -> ∃ ρ1, tgD g (f d) ρ = some ρ1 /\ c ρ1 = some true /\ elt ρ1 = some (G d) /\ I ds ρ1) :
  ∀ (ds : List α) (ρ : Ro) (acc : List D), I ds ρ -> acc.length + ds.length <= sizeLine -> compD g c elt (ds.map f) ρ acc = some (acc ++ ds.map G)
 | [], ρ, acc, h, hl => by simp [compD]
 | d :: ds, ρ, acc, h, hl => by
  obtain ⟨ρ1, h1, h2, h3, h4⟩ := hs d ds ρ h
  rw [map_cons]
  unfold compD
  rw [h1]
  simp only [h2, h3]
  rw [length_cons] at hl
  rw [if_pos (by omega), compD_map I hs ds ρ1 _ h4 (by simp; omega)]
  simp
def cutI {α : Type} (xs : List α) (lo hi : Option Int) : List α := (xs.drop (HT.sIx xs.length 0 lo)).take (HT.sIx xs.length xs.length hi - HT.sIx xs.length 0 lo)
theorem cutL_map {α : Type} (f : α -> D) (xs : List α) (lo hi : Option Int) : cutL (xs.map f) lo hi = (cutI xs lo hi).map f := by
 unfold cutL cutI; rw [length_map, <- map_drop, <- map_take]
theorem cutI_from {α : Type} (xs : List α) (k : Nat) : cutI xs (some (k : Int)) none = xs.drop k := by
 unfold cutI
 rw [HT.sIx_nat, HT.sIx_none]
 rcases Nat.le_total k xs.length with h | h
 ·rw [Nat.min_eq_left h]; exact take_of_length_le (by simp)
 ·rw [Nat.min_eq_right h]; simp [drop_eq_nil_of_le h]
theorem cutI_to {α : Type} (xs : List α) (k : Nat) : cutI xs none (some (k : Int)) = xs.take k := by
 unfold cutI
 rw [HT.sIx_nat, HT.sIx_none]
 simp
theorem atI_map {α : Type} (f : α -> D) (xs : List α) (k : Int) (h0 : 0 <= k) (h1 : k < xs.length) (dflt : α) : atI (xs.map f) k = some (f (xs.getD k.toNat dflt)) := by
 unfold atI ixN
 rw [length_map, if_pos h0, if_pos h1]
 have hl : k.toNat < xs.length := by omega
 simp [getElem?_map, hl]
theorem atI_last {α : Type} (f : α -> D) (xs : List α) (x : α) : atI ((xs ++ [x]).map f) (-1) = some (f x) := by
 unfold atI ixN
 rw [length_map, if_neg (by decide), if_pos (by simp; omega)]
 have e : (-1 + ((xs ++ [x]).length : Int)).toNat = xs.length := by simp; omega
 rw [e]
 simp
theorem runB_rt {n : Nat} {m : MS} {ds : List D} {d : D} (h : m (startS n ds) = some (.rt d)) : runB n m ds = some (.sh d) := by unfold runB; rw [h]
theorem runB_rf {n : Nat} {m : MS} {ds : List D} {d : List D} (h : m (startS n ds) = some (.rf d)) : runB n m ds = some (.fr d) := by unfold runB; rw [h]
def after (rest : MS) : Out -> Option Out
 | .nx ρ => rest ρ | .bk ρ => some (.bk ρ) | .ct ρ => some (.ct ρ) | .rt d => some (.rt d) | .rf d => some (.rf d) | .rp d es => some (.rp d es) | .rg d p r => some (.rg d p r) | .rgf d p r => some (.rgf d p r)
theorem seq_after {x y : MS} {ρ : Ro} {o : Out} (h : x ρ = some o) : mseq x y ρ = after y o := by
 unfold mseq; rw [h]; cases o <;> rfl
theorem seq_for {α : Type} {mi : ML} {g : Tg} {body rest : MS} {ρ : Ro} {res : Option Out} {f : α -> D} (ds : List α) (hi : mi ρ = some (ds.map f)) (I : List α -> Ro -> Prop) (Q : Out -> Prop) (h0 : I ds ρ)
  (hs : ∀ d ds ρ, I (d :: ds) ρ -> ∃ ρ1 o, tgD g (f d) ρ = some ρ1 /\ body ρ1 = some o /\ stepO I Q ds o) (hd : ∀ ρ, I [] ρ -> Q (.nx ρ)) (hq : ∀ o, Q o -> after rest o = res) : mseq (mfor mi g body) rest ρ = res := by
 obtain ⟨o, e, q⟩ := forD_post (g := g) (body := body) I Q hs hd ds ρ h0
 rw [seq_after (o := o) (by unfold mfor; rw [hi]; exact e)]
 exact hq o q
theorem max_if (i j : Int) : (if j > i then j else i) = max i j := by omega
theorem min_if (i j : Int) : (if j < i then j else i) = min i j := by omega
theorem abs_if (i : Int) : (if i < 0 then -i else i) = (i.natAbs : Int) := by omega
theorem size_big : 1000000 <= sizeLine := by rw [show sizeLine = 2 ^ 24 from rfl]; decide
theorem le_size {n : Nat} (h : n <= 1000000) : n <= sizeLine := Nat.le_trans h size_big
theorem range_cons (j n : Nat) (h : j < n) : List.range' j (n - j) = j :: List.range' (j + 1) (n - (j + 1)) := by
 have : n - j = (n - (j + 1)) + 1 := by omega
 rw [this, range'_succ]
theorem mod_cases {x n : Int} (hn : 0 < n) : 0 <= x % n /\ x % n < n := ⟨Int.emod_nonneg _ (by omega), Int.emod_lt_of_pos _ hn⟩
def Run (m : MS) (ρ : Ro) (R : Out -> Prop) : Prop := ∃ o, m ρ = some o /\ R o
def afterR (rest : MS) (R : Out -> Prop) : Out -> Prop
 | .nx ρ => Run rest ρ R | .bk ρ => R (.bk ρ) | .ct ρ => R (.ct ρ) | .rt d => R (.rt d) | .rf d => R (.rf d) | .rp d es => R (.rp d es) | .rg d p r => R (.rg d p r) | .rgf d p r => R (.rgf d p r)
theorem run_seq {x y : MS} {ρ ρ' : Ro} {R : Out -> Prop} (h : x ρ = some (.nx ρ')) (h2 : Run y ρ' R) : Run (mseq x y) ρ R := by
 obtain ⟨o, e, r⟩ := h2
 exact ⟨o, seqI h e, r⟩
theorem run_mseq {x y : MS} {ρ : Ro} {R : Out -> Prop} (h : Run x ρ (afterR y R)) : Run (mseq x y) ρ R := by
 obtain ⟨o, e, r⟩ := h
 cases o with
 | nx ρ' => exact run_seq e r
 | bk ρ' => exact ⟨_, seq_after e, r⟩
 | ct ρ' => exact ⟨_, seq_after e, r⟩
 | rt d => exact ⟨_, seq_after e, r⟩
 | rf d => exact ⟨_, seq_after e, r⟩
 | rp d es => exact ⟨_, seq_after e, r⟩
 | rg d p' r' => exact ⟨_, seq_after e, r⟩
 | rgf d p' r' => exact ⟨_, seq_after e, r⟩
theorem run_for {α : Type} {mi : ML} {g : Tg} {body : MS} {ρ : Ro} {f : α -> D} (ds : List α) (hi : mi ρ = some (ds.map f)) (I : List α -> Ro -> Prop) (Q : Out -> Prop) (h0 : I ds ρ)
  (hs : ∀ d ds ρ, I (d :: ds) ρ -> ∃ ρ1, tgD g (f d) ρ = some ρ1 /\ Run body ρ1 (stepO I Q ds)) (hd : ∀ ρ, I [] ρ -> Q (.nx ρ)) : Run (mfor mi g body) ρ Q := by
 obtain ⟨o, e, q⟩ := forD_post (g := g) (body := body) I Q (fun d ds ρ h => by obtain ⟨ρ1, a, o, b, c⟩ := hs d ds ρ h; exact ⟨ρ1, o, a, b, c⟩) hd ds ρ h0
 exact ⟨o, by unfold mfor; rw [hi]; exact e, q⟩
theorem run_forN {mi : ML} {g : Tg} {body : MS} {ρ : Ro} {f : Nat -> D} (n : Nat) (hi : mi ρ = some ((List.range n).map f)) (I : Nat -> Ro -> Prop) (Q : Out -> Prop) (h0 : I 0 ρ)
  (hs : ∀ j ρ, j < n -> I j ρ -> ∃ ρ1, tgD g (f j) ρ = some ρ1 /\ Run body ρ1 (stepO (fun (_ : List Unit) ρ => I (j + 1) ρ) Q [])) (hd : ∀ ρ, I n ρ -> Q (.nx ρ)) : Run (mfor mi g body) ρ Q := by
 refine run_for (List.range n) hi (I := fun ks ρ => ∃ j, j <= n /\ ks = List.range' j (n - j) /\ I j ρ) (Q := Q) ⟨0, by omega, by rw [range_eq_range']; rfl, h0⟩ ?_ ?_
 ·rintro d ds ρ ⟨j, hj, e, h⟩
  have hlt : j < n := by
   rcases Nat.lt_or_ge j n with z | z
   ·exact z
   ·rw [show n - j = 0 by omega] at e; cases e
  rw [range_cons j n hlt] at e
  obtain ⟨e1, e2⟩ := List.cons.inj e
  subst e1
  obtain ⟨ρ1, a1, o, a2, a3⟩ := hs d ρ hlt h
  refine ⟨ρ1, a1, o, a2, ?_⟩
  cases o with
  | nx r => exact ⟨d + 1, by omega, e2, a3⟩
  | ct r => exact ⟨d + 1, by omega, e2, a3⟩
  | bk r => exact a3
  | rt r => exact a3
  | rf r => exact a3
  | rp r r2 => exact a3
  | rg r r2 r3 => exact a3
  | rgf r r2 r3 => exact a3
 ·rintro ρ ⟨j, hj, e, h⟩
  have : n - j = 0 := by
   rcases Nat.eq_zero_or_pos (n - j) with z | z
   ·exact z
   ·rw [range_cons j n (by omega)] at e; cases e
  have : j = n := by omega
  subst this
  exact hd ρ h
theorem run_freeze {i : Nat} {m : MS} {ρ : Ro} {ds : List D} {R : Out -> Prop} (h : ρ[i]? = some (some (.own ds))) (h2 : Run m (ρ.set i (some (.sh (.lst ds)))) R) : Run (mfreeze i m) ρ R := by
 obtain ⟨o, e, r⟩ := h2
 exact ⟨o, by unfold mfreeze; rw [h]; exact e, r⟩
theorem run_if {c : MB} {x y : MS} {ρ : Ro} {R : Out -> Prop} {b : Bool} (h : c ρ = some b) (h2 : Run (if b then x else y) ρ R) : Run (mif c x y) ρ R := by
 obtain ⟨o, e, r⟩ := h2
 refine ⟨o, ?_, r⟩
 unfold mif; rw [h]
 cases b <;> exact e
theorem run_next {ρ : Ro} {R : Out -> Prop} (h : R (.nx ρ)) : Run mnext ρ R := ⟨_, rfl, h⟩
theorem nat_of {x : Int} (h : 0 <= x) : ∃ n : Nat, x = n := ⟨x.toNat, by omega⟩
theorem mand_bl {x y : ME} {ρ : Ro} {a b : Bool} (h1 : x ρ = some (.bl a)) (h2 : y ρ = some (.bl b)) : mand x y ρ = some (.bl (a && b)) := by
 unfold mand; rw [h1]; cases a <;> simp [h2]
theorem rangeD_map (lo : Int) (n : Nat) : rangeD lo n = (List.range n).map fun (i : Nat) => D.int (lo + (i : Int)) := rfl
theorem rangeD_li (n : Nat) : rangeD 0 n = ((List.range n).map fun (i : Nat) => (i : Int)).map .int := by
 rw [rangeD_map, map_map]
 apply map_congr_left
 intro i _
 simp
theorem okR_of {j : Int} (h1 : -(2 ^ 62) <= j) (h2 : j < 2 ^ 62) : okR j = true := by unfold okR; simp only [h1, h2, decide_true, Bool.and_self]
theorem rng1_ok {j : Int} (h : okR j = true) : rng1 [.int j] = some (rangeD 0 j.toNat) := by
 unfold rng1
 simp only [h, if_true]
theorem runB_rfR {n : Nat} {m : MS} {ds : List D} {P : List D -> Prop} (h : Run m (startS n ds) (fun o => ∃ es, o = .rf es /\ P es)) : ∃ es, runB n m ds = some (.fr es) /\ P es := by
 obtain ⟨o, e, es, rfl, p⟩ := h
 exact ⟨es, runB_rf e, p⟩
theorem run_retO {i : Nat} {ρ : Ro} {ds : List D} {R : Out -> Prop} (h : ρ[i]? = some (some (.own ds))) (h2 : R (.rf ds)) : Run (mretO i) ρ R := ⟨_, by unfold mretO; rw [h], h2⟩
theorem fdivOk_of (i j : Int) (h : 0 < j) (h2 : j < 1073741824) : fdivOk i j = true := by unfold fdivOk; simp only [h, h2, decide_true, Bool.and_self]
theorem shrOk_of (i j : Int) (h : 0 <= j) : shrOk i j = true := by unfold shrOk; simp only [h, decide_true]
theorem at4 (a b c d : Int) (k : Int) (h0 : 0 <= k) (h1 : k < 4) : ∃ x, atI [D.int a, .int b, .int c, .int d] k = some (.int x) /\ (x = a \/ x = b \/ x = c \/ x = d) := by
 have : k = 0 \/ k = 1 \/ k = 2 \/ k = 3 := by omega
 rcases this with h | h | h | h <;> subst h
 ·exact ⟨_, rfl, by simp⟩
 ·exact ⟨_, rfl, by simp⟩
 ·exact ⟨_, rfl, by simp⟩
 ·exact ⟨_, rfl, by simp⟩
theorem at8 (a b c d e f g h : Int) (k : Int) (h0 : 0 <= k) (h1 : k < 8) : ∃ x, atI [D.int a, .int b, .int c, .int d, .int e, .int f, .int g, .int h] k = some (.int x) := by
 have : k = 0 \/ k = 1 \/ k = 2 \/ k = 3 \/ k = 4 \/ k = 5 \/ k = 6 \/ k = 7 := by omega
 rcases this with h | h | h | h | h | h | h | h <;> subst h <;> exact ⟨_, rfl⟩
theorem at2 (a b : Int) (k : Int) (h0 : 0 <= k) (h1 : k < 2) : ∃ x, atI [D.int a, .int b] k = some (.int x) := by
 have : k = 0 \/ k = 1 := by omega
 rcases this with h | h <;> subst h <;> exact ⟨_, rfl⟩
theorem bit01 (x : Int) (h : 0 <= x) : 0 <= Builtin.bitAnd x 1 /\ Builtin.bitAnd x 1 <= 1 := by
 unfold Builtin.bitAnd
 rw [show decide (0 <= x) = true from decide_eq_true h]
 have : (x.toNat &&& (1 : Int).toNat : Nat) <= (1 : Int).toNat := Nat.and_le_right
 refine ⟨?_, ?_⟩
 ·show (0 : Int) <= ((x.toNat &&& (1 : Int).toNat : Nat) : Int)
  omega
 ·show ((x.toNat &&& (1 : Int).toNat : Nat) : Int) <= 1
  have e : (1 : Int).toNat = 1 := rfl
  omega
theorem shr_nonneg {x : Int} (h : 0 <= x) (k : Nat) : 0 <= x / 2 ^ k := Int.ediv_nonneg h (Int.pow_nonneg (by decide))
theorem enumL_map : ∀ (row : List Int) (k : Nat), enumL k (row.map .int) = (List.range row.length).map fun (i : Nat) => D.tup [.int ((k + i : Nat) : Int), .int (row.getD i 0)]
 | [], k => rfl
 | x :: row, k => by
  rw [map_cons, enumL, enumL_map row (k + 1), length_cons, range_succ_eq_map, map_cons, map_map]
  congr 1
  apply map_congr_left
  intro i _
  simp only [Function.comp, Nat.succ_eq_add_one, getD_cons_succ]
  rw [show k + 1 + i = k + (i + 1) by omega]
theorem eq_nilF (ds : List D) : eqFD false (.lst ds) (.lst []) = some (.bl ds.isEmpty) := by
 unfold eqFD eqF
 cases ds with
 | nil => rfl
 | cons d ds => rfl
theorem eq_nilT (ds : List D) : eqFD true (.lst ds) (.lst []) = some (.bl (!ds.isEmpty)) := by
 unfold eqFD eqF
 cases ds with
 | nil => rfl
 | cons d ds => rfl
theorem cutI_len {α : Type} (xs : List α) (lo hi : Option Int) : (cutI xs lo hi).length <= xs.length := by
 unfold cutI; rw [length_take, length_drop]; omega
theorem ixN_in {n : Nat} {k : Int} (h0 : 0 <= k) (h1 : k < n) : ixN n k = some k.toNat := by unfold ixN; rw [if_pos h0, if_pos h1]
theorem zipE_int (n : Nat) : ∀ xs : List Int, zipE (eqF (n + 1)) (xs.map .int) (xs.map .int) = some true
 | [] => rfl
 | x :: xs => by
  rw [map_cons, zipE, zipE_int n xs]
  show (some (x == x)).bind _ = _
  rw [beq_self_eq_true]; rfl
theorem eqF_li (n : Nat) (xs : List Int) : eqF (n + 2) (.lst (xs.map .int)) (.lst (xs.map .int)) = some true := by
 show (if _ = _ then zipE (eqF (n + 1)) (xs.map .int) (xs.map .int) else some false) = _
 rw [if_pos rfl, zipE_int]
theorem eq_pair (xs ys : List Int) : eqFD true (.lst [.lst (xs.map .int), .lst (ys.map .int)]) (.lst [.lst (xs.map .int), .lst (ys.map .int)]) = some (.bl false) := by
 have : eqF 8 (.lst [.lst (xs.map .int), .lst (ys.map .int)]) (.lst [.lst (xs.map .int), .lst (ys.map .int)]) = some true := by
  show (if _ = _ then zipE (eqF 7) [.lst (xs.map .int), .lst (ys.map .int)] [.lst (xs.map .int), .lst (ys.map .int)] else some false) = _
  rw [if_pos rfl]
  simp only [zipE, eqF_li 5, Option.bind_some, Bool.and_self]
 unfold eqFD
 rw [this]; rfl
theorem runB_run {n : Nat} {m : MS} {ds : List D} {d : D} (h : Run m (startS n ds) (fun o => o = .rt d)) : runB n m ds = some (.sh d) := by
 obtain ⟨o, e, rfl⟩ := h
 exact runB_rt e
theorem mcall_fr {f : MF} {m : ML} {ρ : Ro} {ds es : List D} (h : m ρ = some ds) (h2 : f ds = some (.fr es)) : mcall f m ρ = some (.lst es) := by
 unfold mcall; rw [h]; show (match f ds with | some (.sh d) => some d | some (.fr es) => some (D.lst es) | some (.pr d es) => some (.tup [d, .lst es]) | none => none) = _; rw [h2]
theorem mcall_sh {f : MF} {m : ML} {ρ : Ro} {ds : List D} {d : D} (h : m ρ = some ds) (h2 : f ds = some (.sh d)) : mcall f m ρ = some d := by
 unfold mcall; rw [h]; show (match f ds with | some (.sh d) => some d | some (.fr es) => some (D.lst es) | some (.pr d es) => some (.tup [d, .lst es]) | none => none) = _; rw [h2]
theorem acons_ev {x : ME} {r : ML} {ρ : Ro} {d : D} {ds : List D} (h : x ρ = some d) (h2 : r ρ = some ds) : acons x r ρ = some (d :: ds) := by
 unfold acons; rw [h, h2]; rfl
theorem anil_ev {ρ : Ro} : anil ρ = some [] := rfl
theorem compD_filter {α : Type} {g : Tg} {c : MB} {elt : ME} {f : α -> D} {p : α -> Bool} {G : α -> D} (I : List α -> Ro -> Prop)
  (hs : ∀ d ds ρ, I (d :: ds) ρ -> ∃ ρ1, tgD g (f d) ρ = some ρ1 /\ c ρ1 = some (p d) /\ (p d = true -> elt ρ1 = some (G d)) /\ I ds ρ1) :
  ∀ (ds : List α) (ρ : Ro) (acc : List D), I ds ρ -> acc.length + ds.length <= sizeLine -> compD g c elt (ds.map f) ρ acc = some (acc ++ (ds.filter p).map G)
 | [], ρ, acc, h, hl => by simp [compD]
 | d :: ds, ρ, acc, h, hl => by
  obtain ⟨ρ1, h1, h2, h3, h4⟩ := hs d ds ρ h
  rw [length_cons] at hl
  rw [map_cons]
  unfold compD
  rw [h1]
  simp only [h2]
  cases hp : p d with
  | false =>
   simp only
   rw [compD_filter I hs ds ρ1 acc h4 (by omega), filter_cons, hp]
   rfl
  | true =>
   simp only [h3 hp]
   rw [if_pos (by omega), compD_filter I hs ds ρ1 _ h4 (by simp; omega), filter_cons, hp]
   simp
theorem mset_ev {i : Nat} {x : ME} {ρ : Ro} {d : D} (h : x ρ = some d) : mset i x ρ = some (.nx (ρ.set i (some (.sh d)))) := by unfold mset; rw [h]; rfl
theorem mlst_ev {m : ML} {ρ : Ro} {ds : List D} (h : m ρ = some ds) : mlst m ρ = some (.lst ds) := by unfold mlst; rw [h]; rfl
theorem sized_ev {m : ML} {ρ : Ro} {ds : List D} (h : m ρ = some ds) (hz : ds.length <= sizeLine) : sized m ρ = some ds := by
 unfold sized; rw [h]; show (if ds.length <= sizeLine then some ds else none) = _; rw [if_pos hz]
theorem mix_ev {m : ML} {i : ME} {ρ : Ro} {ds : List D} {k : Int} {d : D} (h1 : m ρ = some ds) (h2 : i ρ = some (.int k)) (h3 : atI ds k = some d) : mix m i ρ = some d := by
 unfold mix; rw [h1, h2]; exact h3
theorem eqB_nilD {m : ML} {ρ : Ro} {ds : List D} (h : m ρ = some ds) (neg : Bool) : meqB neg m (sized anil) ρ = some (.bl (if neg then !ds.isEmpty else ds.isEmpty)) := by
 have i0 : 0 <= sizeLine := Nat.zero_le _
 have e : sized anil ρ = some [] := by simp_arith [i0, if_true]
 unfold meqB
 rw [h, e]
 cases neg
 ·simp only [Option.bind_some, eq_nilF]; rfl
 ·simp only [Option.bind_some, eq_nilT]; rfl
theorem aslst_ev {m : ME} {ρ : Ro} {ds : List D} (h : m ρ = some (.lst ds)) : aslst m ρ = some ds := by unfold aslst; rw [h]
theorem mcat_ev {x y : ML} {ρ : Ro} {ds es : List D} (h1 : x ρ = some ds) (h2 : y ρ = some es) (hz : ds.length + es.length <= sizeLine) : mcat x y ρ = some (ds ++ es) := by
 unfold mcat; rw [h1, h2]; show (if ds.length + es.length <= sizeLine then some (ds ++ es) else none) = _; rw [if_pos hz]
section
open PySem L2
theorem try_ok {names : List Str} {mb ms : MS} {xb : MXs} {i : Nat} {ρ : Ro} {o : Out} (h : mb ρ = some o) : mtry names mb xb i ms ρ = some o := by unfold mtry; rw [h]
theorem try_x {names : List Str} {mb ms : MS} {xb : MXs} {i : Nat} {ρ ρ1 ρ2 : Ro} {c : Str} (h : mb ρ = none) (hx : xb ρ = some (c, ρ1)) (hc : c ∈ names) (hs : ms (ρ1.set i (some (.sh (.exc c)))) = some (.nx ρ2)) : mtry names mb xb i ms ρ = some (.nx (ρ2.set i none)) := by
 unfold mtry
 rw [h, hx]
 dsimp only
 rw [if_pos hc, hs]
theorem mif_ev {c : MB} {x y : MS} {ρ : Ro} {b : Bool} (h : c ρ = some b) : mif c x y ρ = (if b then x else y) ρ := by unfold mif; rw [h]; cases b <;> rfl
theorem xif_ev {c : MB} {x y : MXs} {ρ : Ro} {b : Bool} (h : c ρ = some b) : xif c x y ρ = (if b then x else y) ρ := by unfold xif; rw [h]; cases b <;> rfl
theorem mexpr_ev {x : ME} {ρ : Ro} {d : D} (h : x ρ = some d) : mexpr x ρ = some (.nx ρ) := by unfold mexpr; rw [h]; rfl
theorem mexpr_no {x : ME} {ρ : Ro} (h : x ρ = none) : mexpr x ρ = none := by unfold mexpr; rw [h]; rfl
theorem mcall_no {f : MF} {m : ML} {ρ : Ro} {ds : List D} (h : m ρ = some ds) (h2 : f ds = none) : mcall f m ρ = none := by unfold mcall; rw [h]; show (match f ds with | some (.sh d) => some d | some (.fr es) => some (.lst es) | some (.pr d es) => some (.tup [d, .lst es]) | none => none) = _; rw [h2]
theorem xcall_ev {x : MFX} {m : ML} {ρ : Ro} {ds : List D} {c : Str} (h : m ρ = some ds) (h2 : x ds = some c) : xcall x m ρ = some c := by unfold xcall; rw [h]; exact h2
theorem xE_ev {x : MXe} {ρ : Ro} {c : Str} (h : x ρ = some c) : xE x ρ = some (c, ρ) := by unfold xE; rw [h]; rfl
theorem runX_ev {n : Nat} {x : MXs} {ds : List D} {c : Str} {ρ : Ro} (h : x (startS n ds) = some (c, ρ)) : runX n x ds = some c := by unfold runX; rw [h]; rfl
theorem xraise_ev {c : Str} {m : ML} {ρ : Ro} {ds : List D} (h : m ρ = some ds) : xraise c m ρ = some (c, ρ) := by unfold xraise; rw [h]; rfl
theorem mseq_no {x y : MS} {ρ : Ro} (h : x ρ = none) : mseq x y ρ = none := by unfold mseq; rw [h]
theorem runB_no {n : Nat} {m : MS} {ds : List D} (h : m (startS n ds) = none) : runB n m ds = none := by unfold runB; rw [h]
theorem misX_ev {tab : List (Str × Bool)} {m : ME} {ρ : Ro} {c : Str} {k : Bool} (h : m ρ = some (.exc c)) (h2 : tab.lookup c = some k) : misX tab m ρ = some (.bl k) := by unfold misX; rw [h]; simp only [h2]; rfl
end
section
open PySem L2
theorem stir_eq (c k : Int) (hk : 0 <= k) : m_Z8 [.int c, .int k] = some (.sh (.int (stir c k))) := by
 have hp : ((10 : Int) ^ (18 : Int).toNat) = 10 ^ 18 := rfl
 have hp2 : ((2 : Int) ^ (28 : Int).toNat) = 2 ^ 28 := rfl
 have o1 : powOk 10 18 = true := by decide
 have o2 : powOk 2 28 = true := by decide
 have o3 : mulOk 28 k = true := mulOk_l _ _ (by decide) (by decide)
 have o4 : mulOk 1013 k = true := mulOk_l _ _ (by decide) (by decide)
 have o5 : mulOk (c + 1013 * k + 1) 16807 = true := mulOk_r _ _ (by decide) (by decide)
 have o6 : shrOk (c - 10 ^ 18) (28 * k) = true := by unfold shrOk; exact decide_eq_true (by omega)
 have o7 : mulOk ((c + 1013 * k + 1) * 16807 % 2147483647) ((c + 1013 * k + 1) * 16807 % 2147483647) = true := mulOk_l _ _ (by omega) (by omega)
 have o8 : mulOk (((c + 1013 * k + 1) * 16807 % 2147483647) * ((c + 1013 * k + 1) * 16807 % 2147483647) % 2147483629) 39373 = true := mulOk_r _ _ (by decide) (by decide)
 have q1 : ∀ i, modOk i (2 ^ 28) = true := fun i => modOk_of _ _ (by decide)
 have q2 : ∀ i, modOk i 2147483647 = true := fun i => modOk_of _ _ (by decide)
 have q3 : ∀ i, modOk i 2147483629 = true := fun i => modOk_of _ _ (by decide)
 have q4 : ∀ i, modOk i 2147483587 = true := fun i => modOk_of _ _ (by decide)
 have f1 : ∀ i, fdivOk i 8 = true := fun i => by unfold fdivOk; decide
 unfold m_Z8 b_Z8 stir
 by_cases h : 10 ^ 18 <= c
 ·simp_arith [hp, hp2, o1, o2, o3, o6, q1, h, decide_true, if_true]
 ·simp_arith [hp, hp2, o1, o2, o3, o4, o5, o7, o8, q1, q2, q3, q4, f1, h, decide_false, if_true, if_false]
theorem cells_eq (ns : List Int) (many : Nat) (hl : ns.length <= 63) : ∃ cs : List Int, m_Z5 [.lst (ns.map .int), .int many] = some (.fr (cs.map .int)) := by
 unfold m_Z5 b_Z5
 have e1 : cutL (ns.map D.int) none (some (many : Int)) = (ns.take many).map .int := by rw [cutL_map, cutI_to]
 have e2 : [D.int 0] = ([0] : List Int).map .int := rfl
 have g : ((ns.take many).map D.int).length + [D.int 0].length <= sizeLine := le_size (by simp; omega)
 have g2 : 1 <= sizeLine := le_size (by decide)
 refine ⟨cutI (ns.take many ++ [0]) none (some (max 1 (min (many : Int) (ns.length : Int)))), runB_rf ?_⟩
 simp_arith [e1, g2, if_true, length_map, max_if, min_if]
 have g3 : (ns.take many).length + (0 + 1) <= sizeLine := le_size (by simp; omega)
 rw [if_pos g3]
 simp_arith []
 rw [e2, <- map_append, cutL_map]
def envR (c most size kind wide block : Int) (f : List Int) (last : Int) (o8 o9 o10 : Option S) : Ro := [some (.sh (.int c)), some (.sh (.int most)), some (.sh (.int size)), some (.sh (.int kind)), some (.sh (.int wide)), some (.sh (.int block)), some (.own (f.map .int)), some (.sh (.int last)), o8, o9, o10]
theorem row_body (c most size kind wide block : Int) (f : List Int) (last : Int) (j : Nat) (o9 o10 : Option S) (hk0 : 0 <= kind) (hk8 : kind < 8) (hw : 0 < wide) (hw6 : wide <= 1000000) (hb : 0 < block) (hb9 : block <= 9) (hf : f.length < 1000000) (Q : Out -> Prop)
  (hQ : ∀ x last o8 o9 o10, Q (.nx (envR c most size kind wide block (f ++ [x]) last o8 o9 o10))) : Run b_Z11_f0 (envR c most size kind wide block f last (some (.sh (.int (j : Int)))) o9 o10) Q := by
 have s1 := stir_eq c (10 + (j : Int)) (by omega)
 have b1 := mod_cases (x := stir c (10 + (j : Int))) hw
 obtain ⟨one, eo⟩ : ∃ k, stir c (10 + (j : Int)) % wide = k := ⟨_, rfl⟩
 rw [eo] at b1
 have p23 : (10 : Int) ^ (23 : Int).toNat = 100000000000000000000000 := by decide
 have o23 : powOk 10 23 = true := by decide
 have i1 : 0 + 1 <= sizeLine := le_size (by decide)
 have i2 : 0 + 1 + 1 <= sizeLine := le_size (by decide)
 have i3 : 0 + 1 + 1 + 1 <= sizeLine := le_size (by decide)
 have i4 : 0 + 1 + 1 + 1 + 1 <= sizeLine := le_size (by decide)
 have i7 : 0 + 1 + 1 + 1 + 1 + (0 + 1 + 1 + 1) <= sizeLine := le_size (by decide)
 have i8 : 0 + 1 + 1 + 1 + 1 + 1 + 1 + 1 + (0 + 1) <= sizeLine := le_size (by decide)
 have d2 : ∀ i, fdivOk i 2 = true := fun i => fdivOk_of _ _ (by decide) (by decide)
 have m2k := mod_cases (x := (j : Int)) (show (0 : Int) < 2 by decide)
 obtain ⟨x2, e2⟩ := at2 one (0 - one) ((j : Int) % 2) m2k.1 m2k.2
 have mb := mod_cases (x := (j : Int) / block) (show (0 : Int) < 2 by decide)
 have mu1 : mulOk ((j : Int) / block % 2) wide = true := mulOk_l _ _ (by omega) (by omega)
 have mu2 : mulOk (one - wide / 2) 100000000000000000000000 = true := mulOk_l _ _ (by omega) (by omega)
 unfold b_Z11_f0 envR
 ((apply run_seq; focus (simp_arith [s1, modOk_of (stir c (10 + (j : Int))) wide hw, if_true, eo]; rfl)))
 ((apply run_seq; focus (simp_arith [d2, if_true]; rfl)))
 ((apply run_seq; focus (simp_arith [d2, if_true, i4, i2, modOk_of (j : Int) 2 (by decide), e2]; rfl)))
 ((apply run_seq; focus (simp_arith [d2, if_true, i3, i7, fdivOk_of (j : Int) block hb (by omega), modOk_of ((j : Int) / block) 2 (by decide), mu1, mu2, p23, o23, s1, modOk_of (stir c (10 + (j : Int))) 3 (by decide)]; rfl)))
 obtain ⟨x8, e8⟩ := at8 (one - wide / 2) ((j : Int) + one / 2) (0 - (j : Int) - one / 2) x2 (one + (j : Int) / block % 2 * wide) wide ((one - wide / 2) * 100000000000000000000000 + stir c (10 + (j : Int)) % 3) (last + one - wide / 2) kind hk0 hk8
 have hl : (f.map D.int).length < sizeLine := by simp; have := size_big; omega
 refine ⟨_, by simp_arith [i1, i8, if_true, e8, hl]; rfl, ?_⟩
 have := fun a b d => hQ x8 (last + one - wide / 2) a b d
 unfold envR at this
 simp only [map_append] at this
 exact this _ _ _
theorem row_eq (c : Int) (most : Nat) (hm : most <= 300) : ∃ f : List Int, f.length <= most /\ m_Z11 [.int c, .int most] = some (.fr (f.map .int)) := by
 suffices h : ∃ es, m_Z11 [.int c, .int most] = some (.fr es) /\ ∃ f : List Int, f.length <= most /\ es = f.map .int by
  obtain ⟨es, e, f, hf, rfl⟩ := h
  exact ⟨f, hf, e⟩
 unfold m_Z11 b_Z11
 refine runB_rfR ?_
 have i4 : 0 + 1 + 1 + 1 + 1 <= sizeLine := le_size (by decide)
 have i0 : 0 <= sizeLine := Nat.zero_le _
 have p6 : (10 : Int) ^ (6 : Int).toNat = 1000000 := by decide
 have o6 : powOk 10 6 = true := by decide
 have b1 := mod_cases (x := stir c 1) (show (0 : Int) < 4 by decide)
 have b2 := mod_cases (x := stir c 2) (show (0 : Int) < 8 by decide)
 have b3 := mod_cases (x := stir c 3) (show (0 : Int) < 4 by decide)
 have b4 := mod_cases (x := stir c 4) (show (0 : Int) < 9 by decide)
 obtain ⟨sz, e1, hs1⟩ := at4 4 13 41 ((most : Int) + 1) (stir c 1 % 4) b1.1 b1.2
 have hsz : 0 < sz := by omega
 have b0 := mod_cases (x := stir c 0) hsz
 ((apply run_seq; focus (simp_arith [stir_eq c 0 (by decide), stir_eq c 1 (by decide), i4, if_true, modOk_of (stir c 1) 4 (by decide), e1, modOk_of (stir c 0) sz hsz]; rfl)))
 ((apply run_seq; focus (simp_arith [stir_eq c 2 (by decide), if_true, modOk_of (stir c 2) 8 (by decide)]; rfl)))
 obtain ⟨wide, e3, hw⟩ := at4 2 5 50 1000000 (stir c 3 % 4) b3.1 b3.2
 ((apply run_seq; focus (simp_arith [stir_eq c 3 (by decide), i4, if_true, modOk_of (stir c 3) 4 (by decide), p6, o6, e3]; rfl)))
 ((apply run_seq; focus (simp_arith [stir_eq c 4 (by decide), if_true, modOk_of (stir c 4) 9 (by decide)]; rfl)))
 ((apply run_seq; focus (simp_arith [i0, if_true]; rfl)))
 ((apply run_seq; focus (simp_arith []; rfl)))
 obtain ⟨n, en⟩ := nat_of (x := min (stir c 0 % sz) (most : Int)) (by omega)
 have hn : n <= 300 := by omega
 have hn2 : n <= most := by omega
 have k1 : okR (n : Int) = true := okR_of (by omega) (by omega)
 refine run_mseq (run_forN n (f := fun (j : Nat) => D.int (j : Int)) (by simp_arith [min_if, en, rng1_ok k1, Int.toNat_natCast]; rw [rangeD_li, map_map]; rfl)
  (I := fun j ρ => ∃ f last o8 o9 o10, f.length = j /\ ρ = envR c most (stir c 0 % sz) (stir c 2 % 8) wide (1 + stir c 4 % 9) f last o8 o9 o10) _ ⟨[], _, _, _, _, rfl, rfl⟩ ?_ ?_)
 ·rintro j ρ hj ⟨f, last, o8, o9, o10, hf, rfl⟩
  refine ⟨_, rfl, row_body c most (stir c 0 % sz) (stir c 2 % 8) wide (1 + stir c 4 % 9) f last j o9 o10 b2.1 b2.2 (by omega) (by omega) (by omega) (by omega) (by omega) _ fun x last o8 o9 o10 => ⟨f ++ [x], last, o8, o9, o10, by simp [hf], rfl⟩⟩
 ·rintro ρ ⟨f, last, o8, o9, o10, hf, rfl⟩
  exact run_retO rfl ⟨_, rfl, f, by omega, rfl⟩
theorem mtru_bl {x : ME} {ρ : Ro} {b : Bool} (h : x ρ = some (.bl b)) : mtru x ρ = some b := by unfold mtru; rw [h]; rfl
theorem cnot_ev {x : MB} {ρ : Ro} {b : Bool} (h : x ρ = some b) : cnot x ρ = some (!b) := by unfold cnot; rw [h]; rfl
theorem mtest_bl {x : ME} {ρ : Ro} {b : Bool} (h : x ρ = some (.bl b)) : mtest x ρ = some b := by unfold mtest; rw [h]
theorem call1_ev {f : List D -> Option D} {m : ML} {ρ : Ro} {ds : List D} (h : m ρ = some ds) : call1 f m ρ = f ds := by
 unfold call1; rw [h]; rfl
theorem m2_at {f : D -> D -> Option D} {x y : ME} {ρ : Ro} {a b : D} (h1 : x ρ = some a) (h2 : y ρ = some b) : m2 f x y ρ = f a b := by
 unfold m2; rw [h1, h2]; rfl
end
section
open PySem L2
def pok (n : Nat) : Int -> List Int -> Bool
 | _, [] => true
 | l, p :: ps => if p < l \/ (n : Int) <= p then false else pok n (p + 1) ps
theorem are_places_eq (row places : List Int) : m_Z4 [.lst (row.map .int), .lst (places.map .int)] = some (.sh (.bl (pok row.length 0 places))) := by
 unfold m_Z4 b_Z4
 refine runB_rt ?_
 ((apply seqI; focus (simp_arith []; rfl)))
 refine seq_for places (f := D.int) (by simp_arith []) (I := fun ps ρ => ∃ l x, ρ = [some (.sh (.lst (row.map .int))), some (.sh (.lst (places.map .int))), some (.sh (.int l)), x] /\ pok row.length 0 places = pok row.length l ps)
  (Q := fun o => (∃ ρ, o = .nx ρ /\ pok row.length 0 places = true) \/ (o = .rt (.bl false) /\ pok row.length 0 places = false)) ⟨0, none, rfl, rfl⟩ ?_ ?_ ?_
 ·rintro p ps ρ ⟨l, x, rfl, e⟩
  simp only [pok] at e
  by_cases h1 : p < l
  ·rw [if_pos (Or.inl h1)] at e
   exact ⟨_, .rt (.bl false), rfl, by unfold b_Z4_f0; simp_arith [length_map, h1, decide_true], Or.inr ⟨rfl, e⟩⟩
  ·by_cases h2 : (row.length : Int) <= p
   ·rw [if_pos (Or.inr h2)] at e
    exact ⟨_, .rt (.bl false), rfl, by unfold b_Z4_f0; simp_arith [length_map, h1, h2, decide_true, decide_false], Or.inr ⟨rfl, e⟩⟩
   ·rw [if_neg (by omega)] at e
    exact ⟨_, .nx _, rfl, by unfold b_Z4_f0; simp_arith [length_map, h1, h2, decide_true, decide_false]; rfl, _, _, rfl, e⟩
 ·rintro ρ ⟨l, x, rfl, e⟩
  exact Or.inl ⟨_, rfl, e⟩
 ·rintro o (⟨ρ, rfl, e⟩ | ⟨rfl, e⟩)
  ·rw [e]; rfl
  ·rw [e]; rfl
def turn (t : Int × Int × Int) : Bool := decide (max t.1 t.2.2 < t.2.1) || decide (t.2.1 < min t.1 t.2.2)
def trip : List Int -> List (Int × Int × Int)
 | a :: b :: c :: r => (a, b, c) :: trip (b :: c :: r)
 | _ => []
theorem zipW3_trip : ∀ ns : List Int, zipW3 (ns.map .int) ((ns.drop 1).map .int) ((ns.drop 2).map .int) = (trip ns).map fun t => .tup [.int t.1, .int t.2.1, .int t.2.2]
 | [] => rfl
 | [_] => rfl
 | [_, _] => rfl
 | a :: b :: c :: r => by
  have := zipW3_trip (b :: c :: r)
  simp only [drop_succ_cons, drop_zero, map_cons] at this
  simp only [drop_succ_cons, drop_zero, map_cons, trip, zipW3, List.cons.injEq, true_and]
  exact this
theorem turns_of_eq (ns : List Int) : m_Z7 [.lst (ns.map .int)] = some (.sh (.int (((trip ns).filter turn).length : Nat))) := by
 unfold m_Z7 b_Z7
 refine runB_rt ?_
 ((apply seqI; focus (simp_arith []; rfl)))
 have h1 : cutI ns (some 1) none = ns.drop 1 := cutI_from ns 1
 have h2 : cutI ns (some 2) none = ns.drop 2 := cutI_from ns 2
 refine seq_for (trip ns) (f := fun t => .tup [.int t.1, .int t.2.1, .int t.2.2]) (by simp_arith [cutL_map, h1, h2, zipW3_trip]) (I := fun ts ρ => ∃ k : Nat, ∃ x y z, ρ = [some (.sh (.lst (ns.map .int))), some (.sh (.int (k : Nat))), x, y, z] /\ ((trip ns).filter turn).length = k + (ts.filter turn).length)
  (Q := fun o => ∃ x y z, o = .nx [some (.sh (.lst (ns.map .int))), some (.sh (.int (((trip ns).filter turn).length : Nat))), x, y, z]) ⟨0, none, none, none, rfl, by simp⟩ ?_ ?_ ?_
 ·rintro ⟨a, b, c⟩ ts ρ ⟨k, x, y, z, rfl, e⟩
  refine ⟨_, .nx [some (.sh (.lst (ns.map .int))), some (.sh (.int ((k + if turn (a, b, c) then 1 else 0 : Nat) : Nat))), some (.sh (.int a)), some (.sh (.int b)), some (.sh (.int c))], rfl, ?_, ?_⟩
  ·unfold b_Z7_f0
   by_cases q1 : max a c < b
   ·have t : turn (a, b, c) = true := by unfold turn; simp [q1]
    simp_arith [max_if, min_if, q1, decide_true, t, if_true]; simp
   ·by_cases q2 : b < min a c
    ·have t : turn (a, b, c) = true := by unfold turn; simp [q2]
     simp_arith [max_if, min_if, q1, q2, decide_true, decide_false, t, if_true]; simp
    ·have t : turn (a, b, c) = false := by unfold turn; simp [q1, q2]
     simp_arith [max_if, min_if, q1, q2, decide_true, decide_false, t, if_true]; simp
  ·refine ⟨_, _, _, _, rfl, ?_⟩
   rw [e, filter_cons]
   split <;> simp_all <;> omega
 ·rintro ρ ⟨k, x, y, z, rfl, e⟩
  exact ⟨x, y, z, by rw [e]; simp⟩
 ·rintro o ⟨x, y, z, rfl⟩
  unfold after
  simp_arith []
def wD : Option Bool -> D
 | none => .non
 | some b => .bl b
theorem far_eq (c k : Int) (hk : 0 <= k) : ∃ x : Int, 0 <= x /\ m_Z10 [.int c, .int k] = some (.sh (.int x)) := by
 unfold m_Z10 b_Z10
 have i4 : 0 + 1 + 1 + 1 + 1 <= sizeLine := le_size (by decide)
 have p29 : (10 : Int) ^ (29 : Int).toNat = 100000000000000000000000000000 := by decide
 have o29 : powOk 10 29 = true := by decide
 have b1 := mod_cases (x := stir c k) (show (0 : Int) < 4 by decide)
 have b2 := mod_cases (x := stir c (k + 1)) (show (0 : Int) < 1000 by decide)
 obtain ⟨x, e, hx⟩ := at4 0 1 (stir c (k + 1) % 1000) 100000000000000000000000000000 (stir c k % 4) b1.1 b1.2
 refine ⟨x, by omega, runB_rt ?_⟩
 simp_arith [stir_eq c k hk, stir_eq c (k + 1) (by omega), i4, if_true, p29, o29, modOk_of (stir c (k + 1)) 1000 (by decide), modOk_of (stir c k) 4 (by decide), e]
theorem some_eq (c k : Int) (n : Nat) (hk : 0 <= k) (hn : n <= 300) : ∃ f : List Int, f.length <= n /\ m_Z9 [.int c, .int k, .int n] = some (.fr (f.map .int)) := by
 suffices h : ∃ es, m_Z9 [.int c, .int k, .int n] = some (.fr es) /\ ∃ f : List Int, f.length <= n /\ es = f.map .int by
  obtain ⟨es, e, f, hf, rfl⟩ := h
  exact ⟨f, hf, e⟩
 unfold m_Z9 b_Z9
 refine runB_rfR ?_
 have i0 : 0 <= sizeLine := Nat.zero_le _
 have k1 : okR (n : Int) = true := okR_of (by omega) (by omega)
 ((apply run_seq; focus (simp_arith [i0, if_true]; rfl)))
 refine run_mseq (run_forN n (f := fun (j : Nat) => D.int (j : Int)) (by simp_arith [rng1_ok k1, Int.toNat_natCast]; rw [rangeD_li, map_map]; rfl)
  (I := fun j ρ => ∃ (f : List Int) (o4 o5 : Option S), f.length <= j /\ ρ = [some (.sh (.int c)), some (.sh (.int k)), some (.sh (.int (n : Int))), some (.own (f.map .int)), o4, o5]) _ ⟨[], _, _, Nat.le_refl _, rfl⟩ ?_ ?_)
 ·rintro j ρ hj ⟨f, o4, o5, hf, rfl⟩
  refine ⟨_, rfl, ?_⟩
  unfold b_Z9_f0
  have m28 := mod_cases (x := (j : Int)) (show (0 : Int) < 28 by decide)
  have d28 : 0 <= (j : Int) / 28 := Int.ediv_nonneg (by omega) (by decide)
  have s1 := stir_eq c (k + 1 + (j : Int) / 28) (by omega)
  have s2 := stir_eq c (k + 13 + (j : Int) / 28) (by omega)
  have s0 := stir_eq c k hk
  have q1 := bit01 _ (shr_nonneg (stir_nonneg c (k + 1 + (j : Int) / 28)) ((j : Int) % 28).toNat)
  obtain ⟨b0, e0⟩ : ∃ b, Builtin.bitAnd (stir c (k + 1 + (j : Int) / 28) / 2 ^ ((j : Int) % 28).toNat) 1 = b := ⟨_, rfl⟩
  rw [e0] at q1
  ((apply run_seq; focus (simp_arith [s1, fdivOk_of (j : Int) 28 (by decide) (by decide), modOk_of (j : Int) 28 (by decide), if_true, shrOk_of (stir c (k + 1 + (j : Int) / 28)) ((j : Int) % 28) m28.1, e0]; rfl)))
  have l1 : (f.map D.int).length < sizeLine := by simp; have := size_big; omega
  have fin : ∀ b : Int, Run (mif (mtest (m2 eqSD (mvar 5) (mc (.int 1)))) (mapp 3 (mvar 4)) mnext) [some (.sh (.int c)), some (.sh (.int k)), some (.sh (.int (n : Int))), some (.own (f.map .int)), some (.sh (.int (j : Int))), some (.sh (.int b))]
    (stepO (fun (_ : List Unit) ρ => ∃ (f : List Int) (o4 o5 : Option S), f.length <= j + 1 /\ ρ = [some (.sh (.int c)), some (.sh (.int k)), some (.sh (.int (n : Int))), some (.own (f.map .int)), o4, o5]) (afterR (mretO 3) fun o => ∃ es, o = .rf es /\ ∃ f : List Int, f.length <= n /\ es = f.map .int) []) := by
   intro b
   by_cases hb : b = 1
   ·have e1 : (b == 1) = true := by rw [hb]; rfl
    refine ⟨_, by simp_arith [e1, l1, if_true]; rfl, ?_⟩
    refine ⟨f ++ [(j : Int)], some (.sh (.int (j : Int))), some (.sh (.int b)), by simp; omega, ?_⟩
    rw [map_append]
    rfl
   ·have e1 : (b == 1) = false := beq_eq_false_iff_ne.mpr hb
    refine ⟨_, by simp_arith [e1]; rfl, ?_⟩
    exact ⟨f, _, _, by omega, rfl⟩
  by_cases hs : 0 < stir c k % 3
  ·have mu : mulOk b0 (Builtin.bitAnd (stir c (k + 13 + (j : Int) / 28) / 2 ^ ((j : Int) % 28).toNat) 1) = true := mulOk_l _ _ (by omega) (by omega)
   ((apply run_seq; focus (simp_arith [s0, s2, modOk_of (stir c k) 3 (by decide), hs, decide_true, fdivOk_of (j : Int) 28 (by decide) (by decide), modOk_of (j : Int) 28 (by decide), if_true, shrOk_of (stir c (k + 13 + (j : Int) / 28)) ((j : Int) % 28) m28.1, mu]; rfl)))
   exact fin _
  ·((apply run_seq; focus (simp_arith [s0, modOk_of (stir c k) 3 (by decide), hs, decide_false, if_true]; rfl)))
   exact fin _
 ·rintro ρ ⟨f, o4, o5, hf, rfl⟩
  exact run_retO rfl ⟨_, rfl, f, hf, rfl⟩
theorem eqS_way (w : Option Bool) (b : Bool) : ∃ t, eqS (wD w) (.bl b) = some t := by
 cases w with
 | none => exact ⟨false, rfl⟩
 | some i => exact ⟨i == b, rfl⟩
def envT (c k : Int) (row : List Int) (step : Int) (f : List Int) (w : Option Bool) (o6 o7 o8 o9 : Option S) : Ro := [some (.sh (.int c)), some (.sh (.int k)), some (.sh (.lst (row.map .int))), some (.sh (.int step)), some (.own (f.map .int)), some (.sh (wD w)), o6, o7, o8, o9]
theorem by_turns_eq (c k : Int) (row : List Int) (step : Int) (hk : 0 <= k) (hn : row.length <= 300) : ∃ f : List Int, f.length <= row.length /\ m_Z2 [.int c, .int k, .lst (row.map .int), .int step] = some (.fr (f.map .int)) := by
 suffices h : ∃ es, m_Z2 [.int c, .int k, .lst (row.map .int), .int step] = some (.fr es) /\ ∃ f : List Int, f.length <= row.length /\ es = f.map .int by
  obtain ⟨es, e, f, hf, rfl⟩ := h
  exact ⟨f, hf, e⟩
 unfold m_Z2 b_Z2
 refine runB_rfR ?_
 have i0 : 0 <= sizeLine := Nat.zero_le _
 ((apply run_seq; focus (simp_arith [i0, if_true]; rfl)))
 ((apply run_seq; focus (simp_arith []; rfl)))
 refine run_mseq (run_forN row.length (f := fun (i : Nat) => D.tup [.int ((0 + i : Nat) : Int), .int (row.getD i 0)]) (by simp_arith [enumL_map])
  (I := fun j ρ => ∃ (f : List Int) (w : Option Bool) (o6 o7 o8 o9 : Option S), f.length <= j /\ (∀ p ∈ f, 0 <= p /\ p < row.length) /\ ρ = envT c k row step f w o6 o7 o8 o9) _ ⟨[], none, _, _, _, _, Nat.le_refl _, by simp, rfl⟩ ?_ ?_)
 ·rintro j ρ hj ⟨f, w, o6, o7, o8, o9, hf, hp, rfl⟩
  rw [show 0 + j = j by omega]
  refine ⟨_, rfl, ?_⟩
  unfold b_Z2_f0
  have m28 := mod_cases (x := (j : Int)) (show (0 : Int) < 28 by decide)
  have d28 : 0 <= (j : Int) / 28 := Int.ediv_nonneg (by omega) (by decide)
  have s1 := stir_eq c (k + (j : Int) / 28) (by omega)
  have l1 : (f.map D.int).length < sizeLine := by simp; have := size_big; omega
  obtain ⟨passed, hpass⟩ : ∃ b, mand (m2 eqSD (m2 andD (m2 shrD (mcall m_Z8 (acons (mvar 0) (acons (m2 addD (mvar 1) (m2 fdivD (mvar 6) (mc (.int 28)))) anil))) (m2 modD (mvar 6) (mc (.int 28)))) (mc (.int 1))) (mc (.int 1))) (m2 gtD (m2 modD (mvar 6) (mc (.int 3))) (mc (.int 0)))
    (envT c k row step f w (some (.sh (.int (j : Int)))) (some (.sh (.int (row.getD j 0)))) o8 o9) = some (.bl b) :=
   ⟨_, mand_bl (by unfold envT; simp_arith [s1, fdivOk_of (j : Int) 28 (by decide) (by decide), modOk_of (j : Int) 28 (by decide), if_true, shrOk_of (stir c (k + (j : Int) / 28)) ((j : Int) % 28) m28.1]; rfl) (by unfold envT; simp_arith [modOk_of (j : Int) 3 (by decide), if_true]; rfl)⟩
  refine run_seq (ρ' := envT c k row step f w (some (.sh (.int (j : Int)))) (some (.sh (.int (row.getD j 0)))) (some (.sh (.bl passed))) o9) (by unfold mset; show Option.map _ (mand _ _ (envT c k row step f w (some (.sh (.int (j : Int)))) (some (.sh (.int (row.getD j 0)))) o8 o9)) = _; rw [hpass]; rfl) ?_
  have keep : Run mnext (envT c k row step f w (some (.sh (.int (j : Int)))) (some (.sh (.int (row.getD j 0)))) (some (.sh (.bl passed))) o9) (stepO (fun (_ : List Unit) ρ => ∃ (f : List Int) (w : Option Bool) (o6 o7 o8 o9 : Option S), f.length <= j + 1 /\ (∀ p ∈ f, 0 <= p /\ p < row.length) /\ ρ = envT c k row step f w o6 o7 o8 o9) (afterR (mretO 4) fun o => ∃ es, o = .rf es /\ ∃ f : List Int, f.length <= row.length /\ es = f.map .int) []) :=
   run_next ⟨f, w, _, _, _, _, by omega, hp, rfl⟩
  have add : ∀ (w' : Option Bool) (o6 o7 o8 o9 : Option S), stepO (fun (_ : List Unit) ρ => ∃ (f : List Int) (w : Option Bool) (o6 o7 o8 o9 : Option S), f.length <= j + 1 /\ (∀ p ∈ f, 0 <= p /\ p < row.length) /\ ρ = envT c k row step f w o6 o7 o8 o9) (afterR (mretO 4) fun o => ∃ es, o = .rf es /\ ∃ f : List Int, f.length <= row.length /\ es = f.map .int) []
    (.nx (envT c k row step (f ++ [(j : Int)]) w' o6 o7 o8 o9)) := fun w' o6 o7 o8 o9 => ⟨_, w', o6, o7, o8, o9, by simp; omega, by
     intro p hp'
     rcases List.mem_append.mp hp' with h | h
     ·exact hp p h
     ·rw [mem_singleton] at h; subst h; omega, rfl⟩
  unfold envT at add
  simp only [map_append, map_cons, map_nil] at add
  refine run_if (b := (f.map D.int).isEmpty && !passed) ?_ ?_
  ·unfold envT
   cases hE : (f.map D.int).isEmpty <;> simp_arith [eq_nilF, i0, if_true, hE] <;> cases passed <;> rfl
  ·cases f with
   | nil =>
    cases passed with
    | false =>
     show Run (mapp 4 (mvar 6)) _ _
     unfold envT
     rw [map_nil, length_nil] at l1
     refine ⟨_, by simp_arith [l1, if_true]; rfl, ?_⟩
     exact add _ _ _ _ _
    | true =>
     show Run (mif _ _ mnext) _ _
     refine run_if (b := false) ?_ keep
     unfold envT
     simp_arith [eq_nilT, i0, if_true]
   | cons p0 f0 =>
    show Run (mif _ _ mnext) _ _
    refine run_if (b := !passed) ?_ ?_
    ·unfold envT
     simp_arith [eq_nilT, i0, if_true]
    ·cases passed with
     | true => exact keep
     | false =>
      show Run (mseq _ _) _ _
      obtain ⟨fi, pl, efl⟩ : ∃ fi pl, p0 :: f0 = fi ++ [pl] := ⟨_, _, (dropLast_concat_getLast (cons_ne_nil p0 f0)).symm⟩
      have hpl := hp pl (by rw [efl]; simp)
      have a1 : atI ((p0 :: f0).map D.int) (-1) = some (.int pl) := by rw [efl]; exact atI_last D.int fi pl
      have a2 := atI_map D.int row pl hpl.1 hpl.2 0
      rw [map_cons] at a1
      unfold envT
      ((apply run_seq; focus (simp_arith [a1, a2]; rfl)))
      obtain ⟨far, efar⟩ : ∃ x, row.getD j 0 - row.getD pl.toNat 0 = x := ⟨_, rfl⟩
      rw [efar]
      obtain ⟨t, et⟩ := eqS_way w (decide (0 < far))
      by_cases hst : step <= (far.natAbs : Int)
      ·cases t with
       | true =>
        refine run_if (b := false) (by simp_arith [abs_if, hst, decide_true, et]) ?_
        exact run_next ⟨p0 :: f0, w, _, _, _, _, by omega, hp, rfl⟩
       | false =>
        refine run_if (b := true) (by simp_arith [abs_if, hst, decide_true, et]) ?_
        show Run (mseq _ _) _ _
        ((apply run_seq; focus (simp_arith []; rfl)))
        rw [map_cons, length_cons] at l1
        refine ⟨_, by simp_arith [l1, if_true]; rfl, ?_⟩
        have := fun a b d e => add (some (decide (0 < far))) a b d e
        rw [map_cons, cons_append] at this
        exact this _ _ _ _
      ·refine run_if (b := false) (by simp_arith [abs_if, hst, decide_false]) ?_
       exact run_next ⟨p0 :: f0, w, _, _, _, _, by omega, hp, rfl⟩
 ·rintro ρ ⟨f, w, o6, o7, o8, o9, hf, hp, rfl⟩
  exact run_retO rfl ⟨_, rfl, f, hf, rfl⟩
def LI (l : List Int) : D := .lst (l.map .int)
def envO (c k : Int) (pl : List Int) (size at_ to_ far any : Int) (found : S) (o9 o10 : Option S) : Ro := [some (.sh (.int c)), some (.sh (.int k)), some (.sh (.lst (pl.map .int))), some (.sh (.int size)), some (.sh (.int at_)), some (.sh (.int to_)), some (.sh (.int far)), some (.sh (.int any)), some found, o9, o10]
theorem odd_body (c k : Int) (pl : List Int) (size at_ to_ far any : Int) (ls : List (List Int)) (x : Int) (o10 : Option S) (hpl : pl.length <= 300) (hls : ls.length <= 100) (Q : Out -> Prop)
  (hQ : ∀ l1 l2 : List Int, l1.length <= 1000 -> l2.length <= 1000 -> ∀ o9 o10, Q (.nx (envO c k pl size at_ to_ far any (.own ((ls ++ [l1, l2]).map LI)) o9 o10))) :
  Run b_Z0_f0 (envO c k pl size at_ to_ far any (.own (ls.map LI)) (some (.sh (.int x))) o10) Q := by
 have big := size_big
 have i1 : 0 + 1 <= sizeLine := le_size (by decide)
 have h1 := cutI_len pl none (some at_)
 have h2 := cutI_len pl (some at_) none
 have h3 := cutI_len pl (some (at_ + 1)) none
 obtain ⟨c1, e1⟩ : ∃ r, cutI pl none (some at_) = r := ⟨_, rfl⟩
 obtain ⟨c2, e2⟩ : ∃ r, cutI pl (some at_) none = r := ⟨_, rfl⟩
 obtain ⟨c3, e3⟩ : ∃ r, cutI pl (some (at_ + 1)) none = r := ⟨_, rfl⟩
 rw [e1] at h1; rw [e2] at h2; rw [e3] at h3
 have g1 : c1.length + (0 + 1) <= sizeLine := le_size (by omega)
 have g2 : (c1.map D.int ++ [D.int x]).length + c2.length <= sizeLine := le_size (by simp; omega)
 have g3 : (c1.map D.int ++ [D.int x]).length + c3.length <= sizeLine := le_size (by simp; omega)
 have l1 : ls.length < sizeLine := by omega
 have l2 : (ls.map LI ++ [D.lst (c1.map D.int ++ [D.int x] ++ c2.map D.int)]).length < sizeLine := by simp; omega
 unfold b_Z0_f0
 unfold envO
 ((apply run_seq; focus (simp_arith [cutL_map, e1, e2, i1, if_true, length_map, g1, g2, l1]; rfl)))
 refine ⟨_, by simp_arith [cutL_map, e1, e3, i1, if_true, length_map, g1, g3, l2]; rfl, ?_⟩
 have := fun a b => hQ (c1 ++ [x] ++ c2) (c1 ++ [x] ++ c3) (by simp; omega) (by simp; omega) a b
 unfold envO at this
 simp only [map_append, map_cons, map_nil, LI] at this
 simp only [append_assoc, cons_append, nil_append] at this ⊢
 exact this _ _
theorem odd_tail (c k : Int) (pl : List Int) (size at_ to_ far any : Int) (ls : List (List Int)) (o9 o10 : Option S) (hpl : pl.length <= 300) (hls : ls.length <= 100) (ha : 0 <= at_) (ht : 0 <= to_) (hb : ∀ l ∈ ls, l.length <= 1000) :
  Run b_Z0_r1 (envO c k pl size at_ to_ far any (.own (ls.map LI)) o9 o10) (fun o => ∃ es, o = .rf es /\ ∃ ls : List (List Int), ls.length <= 200 /\ (∀ l ∈ ls, l.length <= 1000) /\ es = ls.map LI) := by
 have big := size_big
 have i0 : 0 <= sizeLine := Nat.zero_le _
 have i2 : 0 + 1 + 1 <= sizeLine := le_size (by decide)
 have g : ls.length + (0 + 1 + 1) <= sizeLine := le_size (by omega)
 have fin : ∀ tn : List Int, tn.length <= 1000 -> Run (mfreeze 10 (mretF (mcat (bvar 8) (sized (acons (mvar 10) (acons (mlst (sized anil)) anil)))))) [some (.sh (.int c)), some (.sh (.int k)), some (.sh (.lst (pl.map .int))), some (.sh (.int size)), some (.sh (.int at_)), some (.sh (.int to_)), some (.sh (.int far)), some (.sh (.int any)), some (.sh (.lst (ls.map LI))), o9, some (.own (tn.map .int))]
   (fun o => ∃ es, o = .rf es /\ ∃ ls : List (List Int), ls.length <= 200 /\ (∀ l ∈ ls, l.length <= 1000) /\ es = ls.map LI) := by
  intro tn htn
  refine run_freeze (ds := tn.map .int) rfl ?_
  refine ⟨_, by simp_arith [i0, i2, if_true, length_map, g]; rfl, _, rfl, ls ++ [tn, []], by simp; omega, ?_, ?_⟩
  ·intro l hl
   rcases List.mem_append.mp hl with h | h
   ·exact hb l h
   ·simp at h
    rcases h with h | h <;> subst h
    ·exact htn
    ·simp
  ·rw [map_append]; rfl
 unfold b_Z0_r1
 refine run_freeze (ds := ls.map LI) rfl ?_
 unfold envO
 ((apply run_seq; focus (simp_arith []; rfl)))
 by_cases hm : max at_ to_ < (pl.length : Int)
 ·have a1 := atI_map D.int pl at_ ha (by omega) 0
  have a2 := atI_map D.int pl to_ ht (by omega) 0
  have x1 := ixN_in (n := pl.length) ha (by omega)
  have x2 := ixN_in (n := pl.length) ht (by omega)
  ((apply run_seq; focus (simp_arith [max_if, length_map, hm, decide_true, a1, a2, i2, if_true, x1, x2]; rfl)))
  have := fin ((pl.set at_.toNat (pl.getD to_.toNat 0)).set to_.toNat (pl.getD at_.toNat 0)) (by simp; omega)
  rw [map_set, map_set] at this
  exact this
 ·((apply run_seq; focus (simp_arith [max_if, length_map, hm, decide_false]; rfl)))
  exact fin pl (by omega)
theorem odd_eq (c k : Int) (pl : List Int) (size : Int) (hk : 0 <= k) (hs : 0 <= size) (hpl : pl.length <= 300) : ∃ ls : List (List Int), ls.length <= 200 /\ (∀ l ∈ ls, l.length <= 1000) /\ m_Z0 [.int c, .int k, .lst (pl.map .int), .int size] = some (.fr (ls.map LI)) := by
 suffices h : ∃ es, m_Z0 [.int c, .int k, .lst (pl.map .int), .int size] = some (.fr es) /\ ∃ ls : List (List Int), ls.length <= 200 /\ (∀ l ∈ ls, l.length <= 1000) /\ es = ls.map LI by
  obtain ⟨es, e, ls, h1, h2, rfl⟩ := h
  exact ⟨ls, h1, h2, e⟩
 unfold m_Z0 b_Z0
 refine runB_rfR ?_
 have big := size_big
 have i3 : 0 + 1 + 1 + 1 <= sizeLine := le_size (by decide)
 have i5 : 0 + 1 + 1 + 1 + 1 + 1 <= sizeLine := le_size (by decide)
 have hl : (0 : Int) < (pl.length : Int) + 1 := by omega
 have bA := mod_cases (x := stir c k) hl
 have bT := mod_cases (x := stir c (k + 1)) hl
 obtain ⟨at_, eA⟩ : ∃ x, stir c k % ((pl.length : Int) + 1) = x := ⟨_, rfl⟩
 obtain ⟨to_, eT⟩ : ∃ x, stir c (k + 1) % ((pl.length : Int) + 1) = x := ⟨_, rfl⟩
 rw [eA] at bA
 rw [eT] at bT
 ((apply run_seq; focus (simp_arith [stir_eq c k hk, length_map, modOk_of (stir c k) ((pl.length : Int) + 1) hl, if_true, eA]; rfl)))
 ((apply run_seq; focus (simp_arith [stir_eq c (k + 1) (by omega), length_map, modOk_of (stir c (k + 1)) ((pl.length : Int) + 1) hl, if_true, eT]; rfl)))
 obtain ⟨far, hf, ef⟩ := far_eq c (k + 2) (by omega)
 ((apply run_seq; focus (simp_arith [ef]; rfl)))
 ((apply run_seq; focus (simp_arith [stir_eq c (k + 4) (by omega), modOk_of (stir c (k + 4)) (size + 1) (by omega), if_true]; rfl)))
 obtain ⟨any, ea⟩ : ∃ x, stir c (k + 4) % (size + 1) = x := ⟨_, rfl⟩
 rw [ea]
 have h1 := cutI_len pl none (some at_)
 have h2 := cutI_len pl (some at_) none
 have h3 := cutI_len pl (some (at_ + 1)) none
 have h4 := cutI_len pl (some (at_ - 1)) (some at_)
 obtain ⟨c1, e1⟩ : ∃ r, cutI pl none (some at_) = r := ⟨_, rfl⟩
 obtain ⟨c2, e2⟩ : ∃ r, cutI pl (some at_) none = r := ⟨_, rfl⟩
 obtain ⟨c3, e3⟩ : ∃ r, cutI pl (some (at_ + 1)) none = r := ⟨_, rfl⟩
 obtain ⟨c4, e4⟩ : ∃ r, cutI pl (some (at_ - 1)) (some at_) = r := ⟨_, rfl⟩
 rw [e1] at h1; rw [e2] at h2; rw [e3] at h3; rw [e4] at h4
 have g1 : c1.length + c3.length <= sizeLine := le_size (by omega)
 have g2 : c1.length + c4.length <= sizeLine := le_size (by omega)
 have g3 : (c1.map D.int ++ c4.map D.int).length + c2.length <= sizeLine := le_size (by simp; omega)
 refine run_seq (ρ' := envO c k pl size at_ to_ far any (.own ([c1 ++ c3, c1 ++ c4 ++ c2, pl.reverse].map LI)) none none) ?_ ?_
 ·simp_arith [cutL_map, e1, e2, e3, e4, length_map, g1, g2, g3, i3, if_true]
  unfold envO
  simp only [map_cons, map_nil, LI, map_append, map_reverse]
 refine run_mseq (run_for [any, -1, -1 - far, size, size + far] (f := D.int) (by unfold envO; simp_arith [i5, if_true])
  (I := fun xs ρ => ∃ (ls : List (List Int)) (o9 o10 : Option S), ls.length + 2 * xs.length <= 13 /\ (∀ l ∈ ls, l.length <= 1000) /\ ρ = envO c k pl size at_ to_ far any (.own (ls.map LI)) o9 o10) _ ⟨_, _, _, by simp, ?_, rfl⟩ ?_ ?_)
 ·intro l hl
  simp at hl
  rcases hl with h | h | h <;> subst h <;> simp <;> omega
 ·rintro x xs ρ ⟨ls, o9, o10, hn, hb, rfl⟩
  rw [length_cons] at hn
  refine ⟨_, rfl, odd_body c k pl size at_ to_ far any ls x o10 hpl (by omega) _ fun l1 l2 q1 q2 o9 o10 => ⟨ls ++ [l1, l2], o9, o10, by simp; omega, ?_, rfl⟩⟩
  intro l hl
  rcases List.mem_append.mp hl with h | h
  ·exact hb l h
  ·simp at h
   rcases h with h | h <;> subst h <;> assumption
 ·rintro ρ ⟨ls, o9, o10, hn, hb, rfl⟩
  exact odd_tail c k pl size at_ to_ far any ls o9 o10 hpl (by simp at hn; omega) bA.1 bT.1 hb
end
section
open PySem L2
def num (row : List Int) (p : Int) : Int := row.getD p.toNat 0
def Ris (f : List Int) (n : Nat) : Prop := f.Pairwise (· < ·) /\ ∀ p ∈ f, 0 <= p /\ p < n
theorem Ris.pok {n : Nat} : ∀ {f : List Int} {l : Int}, f.Pairwise (· < ·) -> (∀ p ∈ f, l <= p /\ p < n) -> pok n l f = true
 | [], _, _, _ => rfl
 | p :: f, l, h1, h2 => by
  have hp := h2 p (by simp)
  simp only [Lw.pok]
  rw [if_neg (by omega)]
  rw [pairwise_cons] at h1
  exact Ris.pok h1.2 fun q hq => ⟨by have := h1.1 q hq; omega, (h2 q (by simp [hq])).2⟩
theorem nums_comp (row pl : List Int) (hm : ∀ p ∈ pl, 0 <= p /\ p < row.length) (hl : pl.length <= sizeLine) : compD (.nm 0) cyes (mix (bvar 1) (mvar 0)) (pl.map .int) [none, some (.sh (.lst (row.map .int)))] [] = some ((pl.map (num row)).map .int) := by
 rw [compD_map (f := D.int) (G := fun p => D.int (num row p)) (fun ps ρ => ∃ x, ρ = [x, some (.sh (.lst (row.map .int)))] /\ ∀ p ∈ ps, 0 <= p /\ p < row.length)
  (by
   rintro p ps ρ ⟨x, rfl, hh⟩
   have := hh p (by simp)
   exact ⟨_, rfl, rfl, by simp_arith [atI_map D.int row p this.1 this.2 0]; rfl, _, rfl, fun q hq => hh q (by simp [hq])⟩) pl _ [] ⟨none, rfl, hm⟩ (by simp; omega)]
 simp
theorem how_many_eq (row pl : List Int) (hR : Ris pl row.length) (hl : pl.length <= sizeLine) : m_Z1 [.lst (row.map .int), .lst (pl.map .int)] = some (.sh (.int (((trip (pl.map (num row))).filter turn).length : Nat))) := by
 unfold m_Z1 b_Z1
 refine runB_rt ?_
 have hp : pok row.length 0 pl = true := Ris.pok hR.1 hR.2
 rw [show startS 2 [D.lst (row.map .int), D.lst (pl.map .int)] = [some (.sh (.lst (row.map .int))), some (.sh (.lst (pl.map .int)))] from rfl]
 ((apply seqI; focus (simp_arith [are_places_eq, hp]; rfl)))
 have hc : mcomp [none, some 0] (aslst (mvar 1)) (.nm 0) cyes (mix (bvar 1) (mvar 0)) [some (.sh (.lst (row.map .int))), some (.sh (.lst (pl.map .int)))] = some ((pl.map (num row)).map .int) := by
  unfold mcomp
  simp_arith [blkRo]
  exact nums_comp row pl hR.2 hl
 simp_arith [hc, turns_of_eq]
end
end
section
theorem ddI_mem (ns : List Int) (x : Int) : x ∈ ddI ns ↔ x ∈ ns := by
 have h := PyProof.Rows.firstMet_any (fun i => ns.getD i 0) ns.length x
 have e : (List.range ns.length).map (fun i => ns.getD i 0) = ns := by
  refine ext_getElem (by simp) fun i h1 h2 => ?_
  simp [getD_eq_getElem?_getD, getElem?_eq_getElem h2]
 rw [e, Bool.eq_iff_iff, any_eq_true, any_eq_true] at h
 simp only [beq_iff_eq, exists_eq_right] at h
 exact h
theorem ddI_nodup (ns : List Int) : (ddI ns).Nodup := firstMet_nodup _ _
theorem nodup_of_lt : ∀ {ns : List Int}, ns.Pairwise (· < ·) -> ns.Nodup := fun h => h.imp fun h => by omega
theorem perm_of_mem : ∀ {l m : List Int}, l.Nodup -> m.Nodup -> (∀ x, x ∈ l ↔ x ∈ m) -> l.Perm m
 | [], m, _, _, h => by
  have : m = [] := List.eq_nil_iff_forall_not_mem.mpr fun x hx => by have := (h x).mpr hx; simp at this
  rw [this]
 | x :: l, m, hd, hm, h => by
  have hx : x ∈ m := (h x).mp (by simp)
  have hp := perm_cons_erase hx
  have hd' := List.nodup_cons.mp hd
  refine (List.Perm.cons x (perm_of_mem hd'.2 (hm.erase x) fun y => ?_)).trans hp.symm
  rw [hm.mem_erase_iff]
  constructor
  ·intro hy
   refine ⟨fun e => hd'.1 (e ▸ hy), (h y).mp (mem_cons_of_mem _ hy)⟩
  ·rintro ⟨hne, hy⟩
   rcases List.mem_cons.mp ((h y).mpr hy) with e | hy
   ·exact absurd e hne
   ·exact hy
theorem sortset_iff (ns : List Int) : isort (ddI ns) = ns ↔ ns.Pairwise (· < ·) := by
 constructor
 ·intro e
  have h1 := isort_sorted (ddI ns)
  have h2 : (isort (ddI ns)).Nodup := (isort_perm (ddI ns)).nodup_iff.mpr (ddI_nodup ns)
  rw [e] at h1 h2
  exact (h1.and h2).imp fun hpat => by obtain ⟨a, b⟩ := hpat; omega
 ·intro h
  refine sorted_uniq ((isort_perm _).trans (perm_of_mem (ddI_nodup ns) (nodup_of_lt h) (ddI_mem ns))) (isort_sorted _) (h.imp fun h => by omega)
theorem pok_iff (n : Nat) : ∀ (ns : List Int) (l : Int), pok n l ns = true ↔ ns.Pairwise (· < ·) /\ ∀ p ∈ ns, l <= p /\ p < n
 | [], l => by simp [pok]
 | p :: ns, l => by
  simp only [pok]
  constructor
  ·intro h
   split at h
   ·cases h
   ·rename_i hp
    obtain ⟨h1, h2⟩ := (pok_iff n ns (p + 1)).mp h
    refine ⟨List.pairwise_cons.mpr ⟨fun q hq => by have := h2 q hq; omega, h1⟩, fun q hq => ?_⟩
    rcases List.mem_cons.mp hq with rfl | hq
    ·omega
    ·have := h2 q hq; omega
  ·rintro ⟨h1, h2⟩
   have hp := h2 p (by simp)
   rw [if_neg (by omega)]
   rw [pairwise_cons] at h1
   exact (pok_iff n ns (p + 1)).mpr ⟨h1.2, fun q hq => ⟨by have := h1.1 q hq; omega, (h2 q (by simp [hq])).2⟩⟩
def beyond (n : Nat) (ns : List Int) : List Int := ns.filter fun p => !(decide (0 <= p) && decide (p < n))
theorem good_iff (n : Nat) (ns : List Int) : (decide (ns = isort (ddI ns)) && (beyond n ns).isEmpty) = pok n 0 ns := by
 rw [Bool.eq_iff_iff, Bool.and_eq_true, decide_eq_true_iff, pok_iff, eq_comm, sortset_iff, isEmpty_iff]
 unfold beyond
 rw [filter_eq_nil_iff]
 simp
theorem zipE_ii (k : Nat) : ∀ (l m : List Int), l.length = m.length -> zipE (eqF (k + 1)) (l.map .int) (m.map .int) = some (decide (l = m))
 | [], [], _ => rfl
 | [], _ :: _, h => by cases h
 | _ :: _, [], h => by cases h
 | a :: l, b :: m, h => by
  rw [map_cons, map_cons, zipE, zipE_ii k l m (by simpa using h)]
  show some ((a == b) && decide (l = m)) = _
  congr 1
  rw [Bool.eq_iff_iff]
  simp
theorem eqI_ev {x y : ML} {ρ : Ro} {l m : List Int} (h1 : x ρ = some (l.map .int)) (h2 : y ρ = some (m.map .int)) : meqB false x y ρ = some (.bl (decide (l = m))) := by
 unfold meqB
 rw [h1, h2]
 show eqFD false (.lst (l.map .int)) (.lst (m.map .int)) = _
 have e : eqF 8 (.lst (l.map .int)) (.lst (m.map .int)) = some (decide (l = m)) := by
  unfold eqF
  simp only [length_map]
  split
  ·rename_i h; exact zipE_ii 6 l m h
  ·rename_i h
   rw [decide_eq_false fun e => h (by rw [e])]
 unfold eqFD
 rw [e]; rfl
end
section
abbrev RI (r : List Int) : D := .lst (r.map .int)
abbrev flagsD : List D := [.bl false, .bl true, .bl false, .bl false, .bl false, .bl false, .bl false, .bl false]
theorem mcallF_ev {f : MF} {m : ML} {ρ : Ro} {ds es : List D} (h : m ρ = some ds) (h2 : f ds = some (.fr es)) : mcallF f m ρ = some es := by
 unfold mcallF; rw [h]; show (match f ds with | some (.fr es) => some es | _ => none) = _; rw [h2]
theorem flags_eq : m_Z6 [.exc "NoPlace"] = some (.fr flagsD) := by
 unfold m_Z6 b_Z6
 refine runB_rf ?_
 have t : ∀ {ρ : Ro}, mvar 0 ρ = some (.exc "NoPlace") -> misX [("NoPlace", true)] (mvar 0) ρ = some (.bl true) := fun h => misX_ev h rfl
 have f : ∀ {ρ : Ro}, mvar 0 ρ = some (.exc "NoPlace") -> misX [("NoPlace", false)] (mvar 0) ρ = some (.bl false) := fun h => misX_ev h rfl
 refine seqI (ρ' := [some (.sh (.exc "NoPlace")), some (.sh (.lst [.bl false, .bl true, .bl false, .bl false]))]) ((mset_ev (mlst_ev (sized_ev (acons_ev (f rfl) (acons_ev (t rfl) (acons_ev (f rfl) (acons_ev (f rfl) anil_ev)))) (le_size (by decide))))).trans rfl) ?_
 refine seqI (ρ' := [some (.sh (.exc "NoPlace")), some (.sh (.lst [.bl false, .bl true, .bl false, .bl false, .bl false, .bl false, .bl false]))]) ((mset_ev (mlst_ev (mcat_ev (ds := [.bl false, .bl true, .bl false, .bl false]) (es := [.bl false, .bl false, .bl false]) rfl (sized_ev (acons_ev (f rfl) (acons_ev (f rfl) (acons_ev (f rfl) anil_ev))) (le_size (by decide))) (le_size (by decide))))).trans rfl) ?_
 have n1 : ∀ {ρ : Ro}, mvar 0 ρ = some (.exc "NoPlace") -> m1 notD (misX [("NoPlace", true)] (mvar 0)) ρ = some (.bl false) := fun h => by unfold m1; rw [t h]; rfl
 unfold mretF
 rw [mcat_ev (ds := [.bl false, .bl true, .bl false, .bl false, .bl false, .bl false, .bl false]) (es := [.bl false]) rfl (sized_ev (acons_ev (n1 rfl) anil_ev) (le_size (by decide))) (le_size (by decide))]
 rfl
section
variable (row places : List Int)
theorem test_ev (ρ : Ro) (h0 : mvar 0 ρ = some (RI row)) (h1 : mvar 1 ρ = some (RI places)) : cnot (mtru (mcall m_Z4 (acons (mvar 0) (acons (mvar 1) anil)))) ρ = some (!pok row.length 0 places) :=
 cnot_ev (mtru_bl (mcall_sh (acons_ev h0 (acons_ev h1 anil_ev)) (are_places_eq row places)))
theorem how_no (h : pok row.length 0 places = false) : m_Z1 [RI row, RI places] = none := by
 unfold m_Z1 b_Z1
 refine runB_no (mseq_no ?_)
 rw [mif_ev (test_ev row places _ rfl rfl), h]; rfl
theorem how_x (h : pok row.length 0 places = false) : xm_Z1 [RI row, RI places] = some ("NoPlace" : Str) := by
 unfold xm_Z1 bx_Z1
 refine runX_ev (ρ := startS 2 [RI row, RI places]) ?_
 rw [xif_ev (test_ev row places _ rfl rfl), h]
 exact xraise_ev (acons_ev rfl anil_ev)
def envX (fl : List D) (o4 : Option S) : Ro := [some (.sh (RI row)), some (.sh (RI places)), some (.own fl), some (.sh (.lst [RI row, RI places])), o4]
theorem a0 : mix (bvar 3) (mc (.int 0)) (envX row places [] none) = some (RI row) := mix_ev (ds := [RI row, RI places]) (k := 0) rfl rfl rfl
theorem a1 : mix (bvar 3) (mc (.int 1)) (envX row places [] none) = some (RI places) := mix_ev (ds := [RI row, RI places]) (k := 1) rfl rfl rfl
theorem tailX (fl : List D) (o4 : Option S) : (mseq (mif (mtest (meqB true (bvar 3) (sized (acons (mvar 0) (acons (mvar 1) anil))))) (mretF (sized (acons (mc (.str "changed")) anil))) mnext) (mretO 2)) (envX row places fl o4) = some (.rf fl) := by
 refine seqI (ρ' := envX row places fl o4) ?_ rfl
 have c : mtest (meqB true (bvar 3) (sized (acons (mvar 0) (acons (mvar 1) anil)))) (envX row places fl o4) = some false := by
  unfold mtest meqB
  rw [sized_ev (ds := [RI row, RI places]) (acons_ev rfl (acons_ev rfl anil_ev)) (le_size (by simp))]
  show (match eqFD true (.lst [RI row, RI places]) (.lst [RI row, RI places]) with | some (.bl b) => some b | _ => none) = _
  rw [eq_pair row places]
 rw [mif_ev c]; rfl
theorem refused_eq (hl : places.length <= sizeLine) : m_Z3 [RI row, RI places] = some (.fr (if pok row.length 0 places then [] else flagsD)) := by
 unfold m_Z3 b_Z3
 refine runB_rf ?_
 refine seqI (ρ' := [some (.sh (RI row)), some (.sh (RI places)), some (.own []), none, none]) ?_ ?_
 ·unfold msetF
  rw [sized_ev anil_ev (le_size (by simp))]; rfl
 refine seqI (ρ' := envX row places [] none) ((mset_ev (mlst_ev (sized_ev (acons_ev (mlst_ev (ds := row.map .int) rfl) (acons_ev (mlst_ev (ds := places.map .int) rfl) anil_ev)) (le_size (by simp))))).trans rfl) ?_
 cases hp : pok row.length 0 places with
 | true =>
  obtain ⟨h1, h2⟩ := (pok_iff _ _ _).mp hp
  exact seqI (ρ' := envX row places [] none) (try_ok (mexpr_ev (mcall_sh (acons_ev (a0 _ _) (acons_ev (a1 _ _) anil_ev)) (how_many_eq row places ⟨h1, h2⟩ hl)))) (tailX row places [] none)
 | false =>
  refine seqI (ρ' := envX row places flagsD none) ((try_x (c := ("NoPlace" : Str)) (ρ1 := envX row places [] none) (ρ2 := envX row places flagsD (some (.sh (.exc "NoPlace")))) ?_ ?_ (by simp) ?_).trans rfl) (tailX row places flagsD none)
  ·exact mexpr_no (mcall_no (acons_ev (a0 _ _) (acons_ev (a1 _ _) anil_ev)) (how_no row places hp))
  ·exact xE_ev (xcall_ev (acons_ev (a0 _ _) (acons_ev (a1 _ _) anil_ev)) (how_x row places hp))
  ·unfold msetF
   rw [mcallF_ev (acons_ev (d := .exc "NoPlace") rfl anil_ev) flags_eq]; rfl
end
end
section
def envL (scr : D) (c : Int) (row : List Int) (o3 o4 o5 o6 : Option S) : Ro := [some (.sh scr), some (.sh (.int c)), some (.sh (RI row)), o3, o4, o5, o6]
theorem mchain_ev {x y z : ME} {ρ : Ro} {a b c : Int} (h1 : x ρ = some (.int a)) (h2 : y ρ = some (.int b)) (h3 : z ρ = some (.int c)) : mchain leD ltD x y z ρ = some (.bl (decide (a <= b) && decide (b < c))) := by
 unfold mchain
 rw [h1, h2, h3]
 show (match (some (D.bl (decide (a <= b))) : Option D) with | some (.bl true) => (some (.bl (decide (b < c))) : Option D) | some (.bl false) => some (.bl false) | _ => none) = _
 cases decide (a <= b) <;> rfl
theorem mlen_ev {m : ML} {ρ : Ro} {ds : List D} (h : m ρ = some ds) : mlen m ρ = some (.int ds.length) := by unfold mlen; rw [h]; rfl
theorem mand_ev {x y : ME} {ρ : Ro} {a b : Bool} (h1 : x ρ = some (.bl a)) (h2 : y ρ = some (.bl b)) : mand x y ρ = some (.bl (a && b)) := mand_bl h1 h2
theorem beyond_ev (scr : D) (c : Int) (row so : List Int) (o3 o5 o6 : Option S) (hl : so.length <= 1000) :
  mcomp [none, some 2] (aslst (mvar 4)) (.nm 0) (cnot (mtest (mchain leD ltD (mc (.int 0)) (mvar 0) (mlen (bvar 1))))) (mvar 0) (envL scr c row o3 (some (.sh (RI so))) o5 o6) = some ((beyond row.length so).map .int) := by
 have hz : so.length <= sizeLine := le_size (by omega)
 unfold mcomp
 rw [show aslst (mvar 4) (envL scr c row o3 (some (.sh (RI so))) o5 o6) = some (so.map D.int) from aslst_ev rfl]
 show compD (.nm 0) (cnot (mtest (mchain leD ltD (mc (.int 0)) (mvar 0) (mlen (bvar 1))))) (mvar 0) (so.map D.int) [none, some (.sh (RI row))] [] = _
 rw [compD_filter (f := D.int) (p := fun p => !(decide (0 <= p) && decide (p < (row.length : Int)))) (G := D.int) (fun _ ρ => ∃ o, ρ = [o, some (.sh (RI row))]) ?_ so _ [] ⟨none, rfl⟩ (by simpa using hz)]
 ·rfl
 ·rintro d ds ρ ⟨o, rfl⟩
  refine ⟨[some (.sh (.int d)), some (.sh (RI row))], rfl, ?_, fun _ => rfl, _, rfl⟩
  have hm : mlen (bvar 1) [some (.sh (.int d)), some (.sh (RI row))] = some (.int (row.length : Int)) := by
   rw [mlen_ev (ds := row.map .int) rfl, length_map]
  exact cnot_ev (mtest_bl (mchain_ev (a := 0) (b := d) (c := row.length) rfl rfl hm))
theorem sortSet_ev {m : ML} {ρ : Ro} {ns : List Int} (h : m ρ = some (ns.map .int)) (hl : ns.length < 4000) : msortSetA m ρ = some ((isort (ddI ns)).map .int) := by
 unfold msortSetA
 rw [h]
 simp only [intsD_map]
 rw [if_pos hl]
theorem mul8 (k : Int) (h : mulOk 8 k = true) : mulD (.int 8) (.int k) = some (.int (8 * k)) := by
 show (if mulOk 8 k = true then some (D.int (8 * k)) else none) = _
 rw [if_pos h]
theorem mlist_ev {f : List D -> Option (List D)} {m : ML} {ρ : Ro} {ds es : List D} (h : m ρ = some ds) (h2 : f ds = some es) : mlist f m ρ = some es := by
 unfold mlist; rw [h]; exact h2
def flB (b : Bool) : List D := if b then [] else flagsD
theorem due_ev (g : Bool) (ρ : Ro) (h : mvar 6 ρ = some (.bl g)) : mcomp [none] (mlist rng1 (acons (m2 mulD (mc (.int 8)) (call1 intF (acons (m1 notD (mvar 6)) anil))) anil)) (.nm 0) cyes (m2 eqSD (mvar 0) (mc (.int 1))) ρ = some (flB g) := by
 have hn : m1 notD (mvar 6) ρ = some (.bl (!g)) := by unfold m1; rw [h]; rfl
 have hi : call1 intF (acons (m1 notD (mvar 6)) anil) ρ = some (.int (if (!g) = true then 1 else 0)) := by
  rw [call1_ev (acons_ev hn anil_ev)]; rfl
 cases g with
 | true =>
  have hm : m2 mulD (mc (.int 8)) (call1 intF (acons (m1 notD (mvar 6)) anil)) ρ = some (.int 0) := by
   rw [m2_at (a := .int 8) (b := .int 0) rfl hi]; exact mul8 0 (by decide)
  unfold mcomp
  rw [show mlist rng1 (acons (m2 mulD (mc (.int 8)) (call1 intF (acons (m1 notD (mvar 6)) anil))) anil) ρ = some [] from (mlist_ev (acons_ev hm anil_ev) (rng1_ok (j := 0) (by decide))).trans rfl]
  rfl
 | false =>
  have hm : m2 mulD (mc (.int 8)) (call1 intF (acons (m1 notD (mvar 6)) anil)) ρ = some (.int 8) := by
   rw [m2_at (a := .int 8) (b := .int 1) rfl hi]; exact mul8 1 (by decide)
  unfold mcomp
  rw [show mlist rng1 (acons (m2 mulD (mc (.int 8)) (call1 intF (acons (m1 notD (mvar 6)) anil))) anil) ρ = some ((List.range 8).map fun (i : Nat) => D.int (0 + (i : Int))) from (mlist_ev (acons_ev hm anil_ev) (rng1_ok (j := 8) (by decide))).trans rfl]
  show compD (.nm 0) cyes (m2 eqSD (mvar 0) (mc (.int 1))) ((List.range 8).map fun (i : Nat) => D.int (0 + (i : Int))) [none] [] = _
  rw [compD_map (f := fun (i : Nat) => D.int (0 + (i : Int))) (G := fun (i : Nat) => D.bl (i == 1)) (fun _ ρ => ∃ o, ρ = [o]) ?_ (List.range 8) _ [] ⟨none, rfl⟩ (le_size (by simp))]
  ·rfl
  ·rintro d ds ρ ⟨o, rfl⟩
   refine ⟨[some (.sh (.int (d : Int)))], by rw [Int.zero_add]; rfl, rfl, ?_, _, rfl⟩
   rw [m2_at (a := .int (d : Int)) (b := .int 1) rfl rfl]
   show some (D.bl ((d : Int) == 1)) = _
   congr 2
   rw [Bool.eq_iff_iff, beq_iff_eq, beq_iff_eq]; omega
theorem eqFl (b : Bool) {x y : ML} {ρ : Ro} (h1 : x ρ = some (flB b)) (h2 : y ρ = some (flB b)) : mtest (meqB true x y) ρ = some false := by
 unfold mtest meqB
 rw [h1, h2]
 cases b <;> decide
theorem one_ok (scr : D) (c : Int) (row so : List Int) (hr : row.length <= 300) (hl : so.length <= 1000) (o3 o5 o6 : Option S) (Q : Out -> Prop) (hQ : ∀ o4 o5 o6, Q (.nx (envL scr c row o3 o4 o5 o6))) :
  Run b_Z12_f0 (envL scr c row o3 (some (.sh (RI so))) o5 o6) Q := by
 have hz : so.length <= sizeLine := le_size (by omega)
 unfold b_Z12_f0
 refine run_seq (ρ' := envL scr c row o3 (some (.sh (RI so))) (some (.sh (.lst ((beyond row.length so).map .int)))) o6) ((mset_ev (mlst_ev (beyond_ev scr c row so o3 o5 o6 hl))).trans rfl) ?_
 have hg : mand (meqB false (bvar 4) (msortSetA (bvar 4))) (meqB false (bvar 5) (sized anil)) (envL scr c row o3 (some (.sh (RI so))) (some (.sh (.lst ((beyond row.length so).map .int)))) o6) = some (.bl (pok row.length 0 so)) := by
  rw [<- good_iff]
  refine mand_ev (eqI_ev (l := so) (m := isort (ddI so)) rfl (sortSet_ev (ns := so) rfl (by omega))) ?_
  rw [eqB_nilD (ds := (beyond row.length so).map .int) rfl]
  cases beyond row.length so <;> rfl
 refine run_seq (ρ' := envL scr c row o3 (some (.sh (RI so))) (some (.sh (.lst ((beyond row.length so).map .int)))) (some (.sh (.bl (pok row.length 0 so))))) ((mset_ev hg).trans rfl) ?_
 refine run_if (b := false) (eqFl (pok row.length 0 so) (aslst_ev (mcall_fr (acons_ev (d := RI row) rfl (acons_ev (d := RI so) rfl anil_ev)) ?_)) (due_ev (pok row.length 0 so) _ rfl)) ⟨_, rfl, hQ _ _ _⟩
 exact refused_eq row so hz
theorem places_ok (scr : D) (c : Int) (row pl : List Int) (hr : row.length <= 300) (hpl : pl.length <= 300) (o4 o5 o6 : Option S) (Q : Out -> Prop) (hQ : ∀ o3 o4 o5 o6, Q (.nx (envL scr c row o3 o4 o5 o6))) :
  Run b_Z12_f1 (envL scr c row (some (.sh (RI pl))) o4 o5 o6) Q := by
 unfold b_Z12_f1
 obtain ⟨ls, hls, hlb, el⟩ := odd_eq c 370 pl (row.length : Int) (by decide) (by omega) hpl
 have hm : mlen (bvar 2) (envL scr c row (some (.sh (RI pl))) o4 o5 o6) = some (.int (row.length : Int)) := by
  rw [mlen_ev (ds := row.map .int) rfl, length_map]
 refine run_for (pl :: ls) (f := LI) (aslst_ev (mlst_ev (mcat_ev (ds := [RI pl]) (es := ls.map LI) (sized_ev (acons_ev rfl anil_ev) (le_size (by simp))) (aslst_ev (mcall_fr (acons_ev (d := .int c) rfl (acons_ev (d := .int 370) rfl (acons_ev (d := RI pl) rfl (acons_ev hm anil_ev)))) el)) (le_size (by simp; omega)))))
  (I := fun ds ρ => (∀ l ∈ ds, l.length <= 1000) /\ ∃ o4 o5 o6, ρ = envL scr c row (some (.sh (RI pl))) o4 o5 o6) _ ⟨?_, _, _, _, rfl⟩ ?_ ?_
 ·intro l hl
  rcases List.mem_cons.mp hl with h | h
  ·subst h; omega
  ·exact hlb l h
 ·rintro so ds' ρ ⟨hso, q4, q5, q6, rfl⟩
  exact ⟨_, rfl, one_ok scr c row so hr (hso so (by simp)) _ q5 q6 _ fun r4 r5 r6 => ⟨fun l h => hso l (by simp [h]), r4, r5, r6, rfl⟩⟩
 ·rintro ρ ⟨_, q4, q5, q6, rfl⟩
  exact hQ _ _ _ _
theorem cell_ok (scr : D) (c : Int) (o2 o3 o4 o5 o6 : Option S) (Q : Out -> Prop) (hQ : ∀ o1 o2 o3 o4 o5 o6, Q (.nx [some (.sh scr), o1, o2, o3, o4, o5, o6])) :
  Run b_Z12_f2 [some (.sh scr), some (.sh (.int c)), o2, o3, o4, o5, o6] Q := by
 unfold b_Z12_f2
 obtain ⟨row, hr, er⟩ := row_eq c 300 (by decide)
 have er : m_Z11 [.int c, .int 300] = some (.fr (row.map .int)) := er
 refine run_seq (ρ' := envL scr c row o3 o4 o5 o6) ((mset_ev (mcall_fr (acons_ev (d := .int c) rfl (acons_ev (d := .int 300) rfl anil_ev)) er)).trans rfl) ?_
 obtain ⟨f1, hf1, e1⟩ := some_eq c 320 row.length (by decide) hr
 obtain ⟨f2, hf2, e2⟩ := by_turns_eq c 350 row 1 (by decide) hr
 have hm : mlen (bvar 2) (envL scr c row o3 o4 o5 o6) = some (.int (row.length : Int)) := by
  rw [mlen_ev (ds := row.map .int) rfl, length_map]
 refine run_for [f1, f2] (f := LI) (aslst_ev (mlst_ev (sized_ev (acons_ev (mcall_fr (acons_ev (d := .int c) rfl (acons_ev (d := .int 320) rfl (acons_ev hm anil_ev))) e1) (acons_ev (mcall_fr (acons_ev (d := .int c) rfl (acons_ev (d := .int 350) rfl (acons_ev (d := RI row) rfl (acons_ev (d := .int 1) rfl anil_ev)))) e2) anil_ev)) (le_size (by simp)))))
  (I := fun ds ρ => (∀ l ∈ ds, l.length <= 300) /\ ∃ o3 o4 o5 o6, ρ = envL scr c row o3 o4 o5 o6) _ ⟨?_, _, _, _, _, rfl⟩ ?_ ?_
 ·intro l hl
  simp at hl
  rcases hl with h | h <;> subst h <;> omega
 ·rintro pl ds ρ ⟨hds, p3, p4, p5, p6, rfl⟩
  exact ⟨_, rfl, places_ok scr c row pl hr (hds pl (by simp)) p4 p5 p6 _ fun r3 r4 r5 r6 => ⟨fun l h => hds l (by simp [h]), r3, r4, r5, r6, rfl⟩⟩
 ·rintro ρ ⟨_, p3, p4, p5, p6, rfl⟩
  exact hQ _ _ _ _ _ _
theorem law_true (ns : List Int) (hn : ns.length <= 63) : m_Z12 [.lst (ns.map .int)] = some (.sh (.bl true)) := by
 unfold m_Z12 b_Z12
 refine runB_run ?_
 obtain ⟨cs, ec⟩ := cells_eq ns 8 hn
 have ec : m_Z5 [.lst (ns.map .int), .int 8] = some (.fr (cs.map .int)) := ec
 refine run_mseq (run_for cs (f := D.int) (aslst_ev (mcall_fr (acons_ev (d := .lst (ns.map .int)) rfl (acons_ev (d := .int 8) rfl anil_ev)) ec)) (I := fun _ ρ => ∃ o1 o2 o3 o4 o5 o6, ρ = [some (.sh (.lst (ns.map .int))), o1, o2, o3, o4, o5, o6]) _ ⟨_, _, _, _, _, _, rfl⟩ ?_ (fun ρ _ => ⟨_, rfl, rfl⟩))
 rintro c cs' ρ ⟨o1, o2, o3, o4, o5, o6, rfl⟩
 exact ⟨_, rfl, cell_ok _ c o2 o3 o4 o5 o6 _ fun p1 p2 p3 p4 p5 p6 => ⟨p1, p2, p3, p4, p5, p6, rfl⟩⟩
end
end Lw
namespace Lw
open List
open PySem L2
open PyProof.Rows
section
def top (i : Nat) : Stmt := PySem.Challenge.pw_wavyrow_k05_no_places.main.body.getD i (.Pass ⟨0, 0, 0, 0⟩)
abbrev s_Z4 : Stmt := top 10
abbrev N_Z4 : List Str := ["row", "places", "least", "place"]
theorem sc_Z4 : FnScope N_Z4 ["row", "places"] (defScope s_Z4) := ⟨rfl, rfl, rfl, by decide +kernel, rfl, by decide +kernel, by decide +kernel⟩
theorem ok_Z4 {P : Program} {w : World} {K : W.Frag} {mg : Str -> Option Value} {base : Heap} {f : Addr} {fd : FuncData} (Fn : Fun K "are_places" "are_places" s_Z4 f fd) (z_len : mg "len" = none) : FnOk P w K mg base CX0 1 f fd ["row", "places"] (spR K 2 m_Z4) :=
 Fn.okD (k := 0) (m := b_Z4) sc_Z4 fun cdv A outer s H E hr => (pssd_cons (psd_set (i := 2) sc_Z4.nd rfl (by first | exact Or.inl rfl | exact Or.inr rfl) pd_int) (pssd_cons (psd_for PassesOwn.never rfl (pid_seq (pd_var 1 (pv 1))) (pgd_name (i := 3) (pg_name sc_Z4.nd rfl (by first | exact Or.inl rfl | exact Or.inr rfl))) (pssd_cons (psd_if (pc_w (pcw_or (pc_cmp op_lt opd_lt (pd_var 3 (pv 3)) (pd_var 2 (pv 2)) (nomark _)) (pw1_or (pc_cmp op_ge opd_ge (pd_var 3 (pv 3)) (pd_lenB rfl z_len (pb_var 0 (pv 0))) (nomark _))))) (pssd_one (psd_ret pd_bl)) pssd_nil) (pssd_one (psd_set (i := 2) sc_Z4.nd rfl (by first | exact Or.inl rfl | exact Or.inr rfl) (pd_add (pd_var 3 (pv 3)) pd_int))))) (pssd_one (psd_ret pd_bl))))
abbrev s_Z7 : Stmt := top 11
abbrev N_Z7 : List Str := ["numbers", "many", "left", "middle", "right"]
theorem sc_Z7 : FnScope N_Z7 ["numbers"] (defScope s_Z7) := ⟨rfl, rfl, rfl, by decide +kernel, rfl, by decide +kernel, by decide +kernel⟩
theorem ok_Z7 {P : Program} {w : World} {K : W.Frag} {mg : Str -> Option Value} {base : Heap} {f : Addr} {fd : FuncData} (Fn : Fun K "turns_of" "turns_of" s_Z7 f fd) (z_max : mg "max" = none) (z_min : mg "min" = none) (z_zip : mg "zip" = none) : FnOk P w K mg base CX0 1 f fd ["numbers"] (spR K 1 m_Z7) :=
 Fn.okD (k := 0) (m := b_Z7) sc_Z7 fun cdv A outer s H E hr => (pssd_cons (psd_set (i := 1) sc_Z7.nd rfl (by first | exact Or.inl rfl | exact Or.inr rfl) pd_int) (pssd_cons (psd_for PassesOwn.never rfl (pid_zip3 rfl z_zip (pas_cons (pd_var 0 (pv 0)) (pas_cons (pf_pd (pf_sl (pb_var 0 (pv 0)) (pos_some pd_int) pos_none)) (pas_cons (pf_pd (pf_sl (pb_var 0 (pv 0)) (pos_some pd_int) pos_none)) pas_nil)))) (pgd_tup (is := [2, 3, 4]) (pg_tup rfl (pgs_cons (pg_name (i := 2) sc_Z7.nd rfl (by first | exact Or.inl rfl | exact Or.inr rfl)) (pgs_cons (pg_name (i := 3) sc_Z7.nd rfl (by first | exact Or.inl rfl | exact Or.inr rfl)) (pgs_cons (pg_name (i := 4) sc_Z7.nd rfl (by first | exact Or.inl rfl | exact Or.inr rfl)) pgs_nil))))) (pssd_one (psd_if (pc_w (pcw_or (pc_cmp op_lt opd_lt (pd_max2 rfl rfl z_max (pas_cons (pd_var 2 (pv 2)) (pas_cons (pd_var 4 (pv 4)) pas_nil))) (pd_var 3 (pv 3)) (nomark _)) (pw1_or (pc_cmp op_lt opd_lt (pd_var 3 (pv 3)) (pd_min2 rfl rfl z_min (pas_cons (pd_var 2 (pv 2)) (pas_cons (pd_var 4 (pv 4)) pas_nil))) (nomark _))))) (pssd_one (psd_aug (i := 1) sc_Z7.nd rfl (by first | exact Or.inl rfl | exact Or.inr rfl) pd_int)) pssd_nil))) (pssd_one (psd_retO 1 (pv 1)))))
abbrev s_Z1 : Stmt := top 12
abbrev N_Z1 : List Str := ["row", "places"]
theorem sc_Z1 : FnScope N_Z1 ["row", "places"] (defScope s_Z1) := ⟨rfl, rfl, rfl, by decide +kernel, rfl, by decide +kernel, by decide +kernel⟩
theorem nd_how_many_turns_0 : List.Nodup (["place", "row"] : List Str) := by decide +kernel
theorem ok_Z1 {P : Program} {w : World} {K : W.Frag} {mg : Str -> Option Value} {base : Heap} {f : Addr} {fd : FuncData} {x_Z4 : Addr} {d_Z4 : FuncData} {x_Z7 : Addr} {d_Z7 : FuncData} (Fn : Fun K "how_many_turns" "how_many_turns" s_Z1 f fd) (G_Z4 : FnOk P w K mg base CX0 1 x_Z4 d_Z4 ["row", "places"] (spR K 2 m_Z4)) (b_Z4 : Binds K d_Z4 ["row", "places"] []) (k_Z4 : W.keepIn K (.ref x_Z4) = true) (a_Z4 : mg "are_places" = some (.ref x_Z4)) (G_Z7 : FnOk P w K mg base CX0 1 x_Z7 d_Z7 ["numbers"] (spR K 1 m_Z7)) (b_Z7 : Binds K d_Z7 ["numbers"] []) (k_Z7 : W.keepIn K (.ref x_Z7) = true) (a_Z7 : mg "turns_of" = some (.ref x_Z7)) {y_NoPlace : Addr} (a_NoPlace : mg "NoPlace" = some (.ref y_NoPlace)) (xc_NoPlace : XC K "NoPlace" y_NoPlace) (q_NoPlace : W.excIn K y_NoPlace bmV "ValueError.__new__" = true) : FnOk P w K mg base CX0 2 f fd ["row", "places"] (spR K 2 m_Z1) :=
 Fn.okD (k := 1) (m := b_Z1) sc_Z1 fun cdv A outer s H E hr => (pssd_cons (psd_if (pc_not (pc_tru (pd_call (fun t ha => pe_call (G_Z4.mono (by decide)) hr rfl a_Z4 k_Z4 b_Z4 .nil pass0 ha) rfl (pas_cons (pd_var 0 (pv 0)) (pas_cons (pd_var 1 (pv 1)) pas_nil)) (acons_len (acons_len anil_len))))) (pssd_one psd_never) pssd_nil) (pssd_one (psd_ret (pd_call (fun t ha => pe_call (G_Z7.mono (by decide)) hr rfl a_Z7 k_Z7 b_Z7 .nil pass0 ha) rfl (pas_cons (pf_pd (pf_comp (blk_of (N := ["place", "row"]) (src := [none, some 0]) (defScope s_Z1) N_Z1 rfl rfl (by decide +kernel)) rfl (pid_seq (pd_var 1 (pv 1))) (fun C fp s0 H0 => (pgd_name (i := 0) (pg_name nd_how_many_turns_0 rfl (by first | exact Or.inl rfl | exact Or.inr rfl)))) (fun C fp s0 H0 => ptsd_nil) (fun C fp s0 H0 => (pd_ix (pb_var 1 (pv 1)) (pd_var 0 (pv 0)))))) pas_nil) (acons_len anil_len)))))
theorem okx_Z1 {P : Program} {w : World} {K : W.Frag} {mg : Str -> Option Value} {base : Heap} {f : Addr} {fd : FuncData} {x_Z4 : Addr} {d_Z4 : FuncData} {x_Z7 : Addr} {d_Z7 : FuncData} (Fn : Fun K "how_many_turns" "how_many_turns" s_Z1 f fd) (G_Z4 : FnOk P w K mg base CX0 1 x_Z4 d_Z4 ["row", "places"] (spR K 2 m_Z4)) (b_Z4 : Binds K d_Z4 ["row", "places"] []) (k_Z4 : W.keepIn K (.ref x_Z4) = true) (a_Z4 : mg "are_places" = some (.ref x_Z4)) (G_Z7 : FnOk P w K mg base CX0 1 x_Z7 d_Z7 ["numbers"] (spR K 1 m_Z7)) (b_Z7 : Binds K d_Z7 ["numbers"] []) (k_Z7 : W.keepIn K (.ref x_Z7) = true) (a_Z7 : mg "turns_of" = some (.ref x_Z7)) {y_NoPlace : Addr} (a_NoPlace : mg "NoPlace" = some (.ref y_NoPlace)) (xc_NoPlace : XC K "NoPlace" y_NoPlace) (q_NoPlace : W.excIn K y_NoPlace bmV "ValueError.__new__" = true) : FnOk P w K mg base (CXx P w) 2 f fd ["row", "places"] (spX K 2 xm_Z1) :=
 Fn.okX (k := 1) (m := bx_Z1) sc_Z1 fun cdv A outer s H E hr => (pssx_head (psx_if rfl (pc_not (pc_tru (pd_call (fun t ha => pe_call (G_Z4.mono (by decide)) hr rfl a_Z4 k_Z4 b_Z4 .nil pass0 ha) rfl (pas_cons (pd_var 0 (pv 0)) (pas_cons (pd_var 1 (pv 1)) pas_nil)) (acons_len (acons_len anil_len))))) (pssx_one (psx_raise rfl ⟨rfl, rfl, rfl⟩ rfl rfl a_NoPlace xc_NoPlace q_NoPlace (pas_cons pd_str pas_nil) (acons_len anil_len) (by decide))) pssx_none))
abbrev s_Z8 : Stmt := top 14
abbrev N_Z8 : List Str := ["cell", "k", "number"]
theorem sc_Z8 : FnScope N_Z8 ["cell", "k"] (defScope s_Z8) := ⟨rfl, rfl, rfl, by decide +kernel, rfl, by decide +kernel, by decide +kernel⟩
theorem ok_Z8 {P : Program} {w : World} {K : W.Frag} {mg : Str -> Option Value} {base : Heap} {f : Addr} {fd : FuncData} (Fn : Fun K "_law_stir" "_law_stir" s_Z8 f fd) : FnOk P w K mg base CX0 1 f fd ["cell", "k"] (spR K 2 m_Z8) :=
 Fn.okD (k := 0) (m := b_Z8) sc_Z8 fun cdv A outer s H E hr => (pssd_cons (psd_if (pc_cmp op_ge opd_ge (pd_var 0 (pv 0)) (pd_pow pd_int pd_int) (nomark _)) (pssd_one (psd_ret (pd_mod (pd_shr (pd_sub (pd_var 0 (pv 0)) (pd_pow pd_int pd_int)) (pd_mul pd_int (pd_var 1 (pv 1)))) (pd_pow pd_int pd_int)))) pssd_nil) (pssd_cons (psd_set (i := 2) sc_Z8.nd rfl (by first | exact Or.inl rfl | exact Or.inr rfl) (pd_mod (pd_mul (pd_add (pd_add (pd_var 0 (pv 0)) (pd_mul pd_int (pd_var 1 (pv 1)))) pd_int) pd_int) pd_int)) (pssd_cons (psd_set (i := 2) sc_Z8.nd rfl (by first | exact Or.inl rfl | exact Or.inr rfl) (pd_mod (pd_mul (pd_var 2 (pv 2)) (pd_var 2 (pv 2))) pd_int)) (pssd_one (psd_ret (pd_fdiv (pd_mod (pd_mul (pd_var 2 (pv 2)) pd_int) pd_int) pd_int))))))
abbrev s_Z5 : Stmt := top 15
abbrev N_Z5 : List Str := ["script", "many"]
theorem sc_Z5 : FnScope N_Z5 ["script", "many"] (defScope s_Z5) := ⟨rfl, rfl, rfl, by decide +kernel, rfl, by decide +kernel, by decide +kernel⟩
theorem ok_Z5 {P : Program} {w : World} {K : W.Frag} {mg : Str -> Option Value} {base : Heap} {f : Addr} {fd : FuncData} (Fn : Fun K "_law_cells" "_law_cells" s_Z5 f fd) (z_len : mg "len" = none) (z_max : mg "max" = none) (z_min : mg "min" = none) : FnOk P w K mg base CX0 1 f fd ["script", "many"] (spR K 2 m_Z5) :=
 Fn.okD (k := 0) (m := b_Z5) sc_Z5 fun cdv A outer s H E hr => (pssd_one (psd_retF (pf_sl (pf_pb (pf_cat (pf_pb (pf_sl (pb_var 0 (pv 0)) pos_none (pos_some (pd_var 1 (pv 1))))) (pf_pb (pf_lst (pas_cons pd_int pas_nil))))) pos_none (pos_some (pd_max2 rfl rfl z_max (pas_cons pd_int (pas_cons (pd_min2 rfl rfl z_min (pas_cons (pd_var 1 (pv 1)) (pas_cons (pd_lenB rfl z_len (pb_var 0 (pv 0))) pas_nil))) pas_nil)))))))
abbrev s_Z11 : Stmt := top 16
abbrev N_Z11 : List Str := ["cell", "most", "size", "kind", "wide", "block", "found", "last", "k", "one", "some"]
theorem sc_Z11 : FnScope N_Z11 ["cell", "most"] (defScope s_Z11) := ⟨rfl, rfl, rfl, by decide +kernel, rfl, by decide +kernel, by decide +kernel⟩
theorem ok_Z11 {P : Program} {w : World} {K : W.Frag} {mg : Str -> Option Value} {base : Heap} {f : Addr} {fd : FuncData} {x_Z8 : Addr} {d_Z8 : FuncData} (Fn : Fun K "_law_row" "_law_row" s_Z11 f fd) (G_Z8 : FnOk P w K mg base CX0 1 x_Z8 d_Z8 ["cell", "k"] (spR K 2 m_Z8)) (b_Z8 : Binds K d_Z8 ["cell", "k"] []) (k_Z8 : W.keepIn K (.ref x_Z8) = true) (a_Z8 : mg "_law_stir" = some (.ref x_Z8)) (z_min : mg "min" = none) (z_range : mg "range" = none) : FnOk P w K mg base CX0 2 f fd ["cell", "most"] (spR K 2 m_Z11) :=
 Fn.okD (k := 1) (m := b_Z11) sc_Z11 fun cdv A outer s H E hr => (pssd_cons (psd_set (i := 2) sc_Z11.nd rfl (by first | exact Or.inl rfl | exact Or.inr rfl) (pd_mod (pd_call (fun t ha => pe_call (G_Z8.mono (by decide)) hr rfl a_Z8 k_Z8 b_Z8 .nil pass0 ha) rfl (pas_cons (pd_var 0 (pv 0)) (pas_cons pd_int pas_nil)) (acons_len (acons_len anil_len))) (pd_ix (pf_pb (pf_lst (pas_cons pd_int (pas_cons pd_int (pas_cons pd_int (pas_cons (pd_add (pd_var 1 (pv 1)) pd_int) pas_nil)))))) (pd_mod (pd_call (fun t ha => pe_call (G_Z8.mono (by decide)) hr rfl a_Z8 k_Z8 b_Z8 .nil pass0 ha) rfl (pas_cons (pd_var 0 (pv 0)) (pas_cons pd_int pas_nil)) (acons_len (acons_len anil_len))) pd_int)))) (pssd_cons (psd_set (i := 3) sc_Z11.nd rfl (by first | exact Or.inl rfl | exact Or.inr rfl) (pd_mod (pd_call (fun t ha => pe_call (G_Z8.mono (by decide)) hr rfl a_Z8 k_Z8 b_Z8 .nil pass0 ha) rfl (pas_cons (pd_var 0 (pv 0)) (pas_cons pd_int pas_nil)) (acons_len (acons_len anil_len))) pd_int)) (pssd_cons (psd_set (i := 4) sc_Z11.nd rfl (by first | exact Or.inl rfl | exact Or.inr rfl) (pd_ix (pf_pb (pf_lst (pas_cons pd_int (pas_cons pd_int (pas_cons pd_int (pas_cons (pd_pow pd_int pd_int) pas_nil)))))) (pd_mod (pd_call (fun t ha => pe_call (G_Z8.mono (by decide)) hr rfl a_Z8 k_Z8 b_Z8 .nil pass0 ha) rfl (pas_cons (pd_var 0 (pv 0)) (pas_cons pd_int pas_nil)) (acons_len (acons_len anil_len))) pd_int))) (pssd_cons (psd_set (i := 5) sc_Z11.nd rfl (by first | exact Or.inl rfl | exact Or.inr rfl) (pd_add pd_int (pd_mod (pd_call (fun t ha => pe_call (G_Z8.mono (by decide)) hr rfl a_Z8 k_Z8 b_Z8 .nil pass0 ha) rfl (pas_cons (pd_var 0 (pv 0)) (pas_cons pd_int pas_nil)) (acons_len (acons_len anil_len))) pd_int))) (pssd_cons (psd_setF (i := 6) sc_Z11.nd rfl (by first | exact Or.inl rfl | exact Or.inr rfl) (pf_lst pas_nil)) (pssd_cons (psd_set (i := 7) sc_Z11.nd rfl (by first | exact Or.inl rfl | exact Or.inr rfl) pd_int) (pssd_cons (psd_for PassesOwn.never rfl (pid_range1 rfl z_range (pas_cons (pd_min2 rfl rfl z_min (pas_cons (pd_var 2 (pv 2)) (pas_cons (pd_var 1 (pv 1)) pas_nil))) pas_nil)) (pgd_name (i := 8) (pg_name sc_Z11.nd rfl (by first | exact Or.inl rfl | exact Or.inr rfl))) (pssd_cons (psd_set (i := 9) sc_Z11.nd rfl (by first | exact Or.inl rfl | exact Or.inr rfl) (pd_mod (pd_call (fun t ha => pe_call (G_Z8.mono (by decide)) hr rfl a_Z8 k_Z8 b_Z8 .nil pass0 ha) rfl (pas_cons (pd_var 0 (pv 0)) (pas_cons (pd_add pd_int (pd_var 8 (pv 8))) pas_nil)) (acons_len (acons_len anil_len))) (pd_var 4 (pv 4)))) (pssd_cons (psd_set (i := 7) sc_Z11.nd rfl (by first | exact Or.inl rfl | exact Or.inr rfl) (pd_sub (pd_add (pd_var 7 (pv 7)) (pd_var 9 (pv 9))) (pd_fdiv (pd_var 4 (pv 4)) pd_int))) (pssd_cons (psd_set (i := 10) sc_Z11.nd rfl (by first | exact Or.inl rfl | exact Or.inr rfl) (pf_pd (pf_lst (pas_cons (pd_sub (pd_var 9 (pv 9)) (pd_fdiv (pd_var 4 (pv 4)) pd_int)) (pas_cons (pd_add (pd_var 8 (pv 8)) (pd_fdiv (pd_var 9 (pv 9)) pd_int)) (pas_cons (pd_sub (pd_sub pd_int (pd_var 8 (pv 8))) (pd_fdiv (pd_var 9 (pv 9)) pd_int)) (pas_cons (pd_ix (pf_pb (pf_lst (pas_cons (pd_var 9 (pv 9)) (pas_cons (pd_sub pd_int (pd_var 9 (pv 9))) pas_nil)))) (pd_mod (pd_var 8 (pv 8)) pd_int)) pas_nil))))))) (pssd_cons (psd_set (i := 10) sc_Z11.nd rfl (by first | exact Or.inl rfl | exact Or.inr rfl) (pf_pd (pf_cat (pb_var 10 (pv 10)) (pf_pb (pf_lst (pas_cons (pd_add (pd_var 9 (pv 9)) (pd_mul (pd_mod (pd_fdiv (pd_var 8 (pv 8)) (pd_var 5 (pv 5))) pd_int) (pd_var 4 (pv 4)))) (pas_cons (pd_var 4 (pv 4)) (pas_cons (pd_add (pd_mul (pd_sub (pd_var 9 (pv 9)) (pd_fdiv (pd_var 4 (pv 4)) pd_int)) (pd_pow pd_int pd_int)) (pd_mod (pd_call (fun t ha => pe_call (G_Z8.mono (by decide)) hr rfl a_Z8 k_Z8 b_Z8 .nil pass0 ha) rfl (pas_cons (pd_var 0 (pv 0)) (pas_cons (pd_add pd_int (pd_var 8 (pv 8))) pas_nil)) (acons_len (acons_len anil_len))) pd_int)) pas_nil)))))))) (pssd_one (psd_append (i := 6) (pv 6) (pd_ix (pf_pb (pf_cat (pb_var 10 (pv 10)) (pf_pb (pf_lst (pas_cons (pd_var 7 (pv 7)) pas_nil))))) (pd_var 3 (pv 3))) (fun t ha => pe_bm PySem.F.plainAttrs_list PySem.F.slot_list_append PySem.F.type_list_append mt_append (pv 6) ha) (pas_cons (pd_ix (pf_pb (pf_cat (pb_var 10 (pv 10)) (pf_pb (pf_lst (pas_cons (pd_var 7 (pv 7)) pas_nil))))) (pd_var 3 (pv 3))) pas_nil)))))))) (pssd_one (psd_retO 6 (pv 6))))))))))
abbrev s_Z6 : Stmt := top 17
abbrev N_Z6 : List Str := ["e", "found"]
theorem sc_Z6 : FnScope N_Z6 ["e"] (defScope s_Z6) := ⟨rfl, rfl, rfl, by decide +kernel, rfl, by decide +kernel, by decide +kernel⟩
theorem ok_Z6 {P : Program} {w : World} {K : W.Frag} {mg : Str -> Option Value} {base : Heap} {f : Addr} {fd : FuncData} (Fn : Fun K "_law_flags" "_law_flags" s_Z6 f fd) {y_NoForm : Addr} (a_NoForm : mg "NoForm" = some (.ref y_NoForm)) {y_NoNumber : Addr} (a_NoNumber : mg "NoNumber" = some (.ref y_NoNumber)) {y_NoPlace : Addr} (a_NoPlace : mg "NoPlace" = some (.ref y_NoPlace)) {y_NoStep : Addr} (a_NoStep : mg "NoStep" = some (.ref y_NoStep)) {y_NoText : Addr} (a_NoText : mg "NoText" = some (.ref y_NoText)) {y_NoWeights : Addr} (a_NoWeights : mg "NoWeights" = some (.ref y_NoWeights)) {y_NoneYet : Addr} (a_NoneYet : mg "NoneYet" = some (.ref y_NoneYet)) (hi_NoForm : ∀ c k, ([("NoPlace", false)] : List (Str × Bool)).lookup c = some k -> ∀ C, XC K c C -> XCls K C /\ W.kitOne K (.ref C) (.ref y_NoForm) = some k) (hi_NoNumber : ∀ c k, ([("NoPlace", false)] : List (Str × Bool)).lookup c = some k -> ∀ C, XC K c C -> XCls K C /\ W.kitOne K (.ref C) (.ref y_NoNumber) = some k) (hi_NoPlace : ∀ c k, ([("NoPlace", true)] : List (Str × Bool)).lookup c = some k -> ∀ C, XC K c C -> XCls K C /\ W.kitOne K (.ref C) (.ref y_NoPlace) = some k) (hi_NoStep : ∀ c k, ([("NoPlace", false)] : List (Str × Bool)).lookup c = some k -> ∀ C, XC K c C -> XCls K C /\ W.kitOne K (.ref C) (.ref y_NoStep) = some k) (hi_NoText : ∀ c k, ([("NoPlace", false)] : List (Str × Bool)).lookup c = some k -> ∀ C, XC K c C -> XCls K C /\ W.kitOne K (.ref C) (.ref y_NoText) = some k) (hi_NoWeights : ∀ c k, ([("NoPlace", false)] : List (Str × Bool)).lookup c = some k -> ∀ C, XC K c C -> XCls K C /\ W.kitOne K (.ref C) (.ref y_NoWeights) = some k) (hi_NoneYet : ∀ c k, ([("NoPlace", false)] : List (Str × Bool)).lookup c = some k -> ∀ C, XC K c C -> XCls K C /\ W.kitOne K (.ref C) (.ref y_NoneYet) = some k) (hb_ValueError : ∀ c k, ([("NoPlace", true)] : List (Str × Bool)).lookup c = some k -> ∀ C, XC K c C -> XCls K C /\ W.kitOne K (.ref C) (.type "ValueError") = some k) (z_ValueError : mg "ValueError" = none) (z_isinstance : mg "isinstance" = none) : FnOkN P w K mg base CX0 1 f fd ["e"] (spR K 1 m_Z6) :=
 Fn.okN (k := 0) (m := b_Z6) sc_Z6 fun cdv A outer s H E hr => (pssd_cons (psd_set (i := 1) sc_Z6.nd rfl (by first | exact Or.inl rfl | exact Or.inr rfl) (pf_pd (pf_lst (pas_cons (pd_isX (tab := [("NoPlace", false)]) rfl z_isinstance rfl a_NoStep (pd_var 0 (pv 0)) hi_NoStep) (pas_cons (pd_isX (tab := [("NoPlace", true)]) rfl z_isinstance rfl a_NoPlace (pd_var 0 (pv 0)) hi_NoPlace) (pas_cons (pd_isX (tab := [("NoPlace", false)]) rfl z_isinstance rfl a_NoWeights (pd_var 0 (pv 0)) hi_NoWeights) (pas_cons (pd_isX (tab := [("NoPlace", false)]) rfl z_isinstance rfl a_NoNumber (pd_var 0 (pv 0)) hi_NoNumber) pas_nil))))))) (pssd_cons (psd_set (i := 1) sc_Z6.nd rfl (by first | exact Or.inl rfl | exact Or.inr rfl) (pf_pd (pf_cat (pb_var 1 (pv 1)) (pf_pb (pf_lst (pas_cons (pd_isX (tab := [("NoPlace", false)]) rfl z_isinstance rfl a_NoText (pd_var 0 (pv 0)) hi_NoText) (pas_cons (pd_isX (tab := [("NoPlace", false)]) rfl z_isinstance rfl a_NoForm (pd_var 0 (pv 0)) hi_NoForm) (pas_cons (pd_isX (tab := [("NoPlace", false)]) rfl z_isinstance rfl a_NoneYet (pd_var 0 (pv 0)) hi_NoneYet) pas_nil)))))))) (pssd_one (psd_retF (pf_cat (pb_var 1 (pv 1)) (pf_pb (pf_lst (pas_cons (pd_not (pd_isXB (T := "ValueError") (tab := [("NoPlace", true)]) rfl z_isinstance rfl z_ValueError (by rfl) (pd_var 0 (pv 0)) hb_ValueError)) pas_nil))))))))
abbrev s_Z10 : Stmt := top 18
abbrev N_Z10 : List Str := ["cell", "k"]
theorem sc_Z10 : FnScope N_Z10 ["cell", "k"] (defScope s_Z10) := ⟨rfl, rfl, rfl, by decide +kernel, rfl, by decide +kernel, by decide +kernel⟩
theorem ok_Z10 {P : Program} {w : World} {K : W.Frag} {mg : Str -> Option Value} {base : Heap} {f : Addr} {fd : FuncData} {x_Z8 : Addr} {d_Z8 : FuncData} (Fn : Fun K "_law_far" "_law_far" s_Z10 f fd) (G_Z8 : FnOk P w K mg base CX0 1 x_Z8 d_Z8 ["cell", "k"] (spR K 2 m_Z8)) (b_Z8 : Binds K d_Z8 ["cell", "k"] []) (k_Z8 : W.keepIn K (.ref x_Z8) = true) (a_Z8 : mg "_law_stir" = some (.ref x_Z8)) : FnOk P w K mg base CX0 2 f fd ["cell", "k"] (spR K 2 m_Z10) :=
 Fn.okD (k := 1) (m := b_Z10) sc_Z10 fun cdv A outer s H E hr => (pssd_one (psd_ret (pd_ix (pf_pb (pf_lst (pas_cons pd_int (pas_cons pd_int (pas_cons (pd_mod (pd_call (fun t ha => pe_call (G_Z8.mono (by decide)) hr rfl a_Z8 k_Z8 b_Z8 .nil pass0 ha) rfl (pas_cons (pd_var 0 (pv 0)) (pas_cons (pd_add (pd_var 1 (pv 1)) pd_int) pas_nil)) (acons_len (acons_len anil_len))) pd_int) (pas_cons (pd_pow pd_int pd_int) pas_nil)))))) (pd_mod (pd_call (fun t ha => pe_call (G_Z8.mono (by decide)) hr rfl a_Z8 k_Z8 b_Z8 .nil pass0 ha) rfl (pas_cons (pd_var 0 (pv 0)) (pas_cons (pd_var 1 (pv 1)) pas_nil)) (acons_len (acons_len anil_len))) pd_int))))
abbrev s_Z9 : Stmt := top 19
abbrev N_Z9 : List Str := ["cell", "k", "size", "found", "place", "bit"]
theorem sc_Z9 : FnScope N_Z9 ["cell", "k", "size"] (defScope s_Z9) := ⟨rfl, rfl, rfl, by decide +kernel, rfl, by decide +kernel, by decide +kernel⟩
theorem ok_Z9 {P : Program} {w : World} {K : W.Frag} {mg : Str -> Option Value} {base : Heap} {f : Addr} {fd : FuncData} {x_Z8 : Addr} {d_Z8 : FuncData} (Fn : Fun K "_law_some" "_law_some" s_Z9 f fd) (G_Z8 : FnOk P w K mg base CX0 1 x_Z8 d_Z8 ["cell", "k"] (spR K 2 m_Z8)) (b_Z8 : Binds K d_Z8 ["cell", "k"] []) (k_Z8 : W.keepIn K (.ref x_Z8) = true) (a_Z8 : mg "_law_stir" = some (.ref x_Z8)) (z_range : mg "range" = none) : FnOk P w K mg base CX0 2 f fd ["cell", "k", "size"] (spR K 3 m_Z9) :=
 Fn.okD (k := 1) (m := b_Z9) sc_Z9 fun cdv A outer s H E hr => (pssd_cons (psd_setF (i := 3) sc_Z9.nd rfl (by first | exact Or.inl rfl | exact Or.inr rfl) (pf_lst pas_nil)) (pssd_cons (psd_for PassesOwn.never rfl (pid_range1 rfl z_range (pas_cons (pd_var 2 (pv 2)) pas_nil)) (pgd_name (i := 4) (pg_name sc_Z9.nd rfl (by first | exact Or.inl rfl | exact Or.inr rfl))) (pssd_cons (psd_set (i := 5) sc_Z9.nd rfl (by first | exact Or.inl rfl | exact Or.inr rfl) (pd_band (pd_shr (pd_call (fun t ha => pe_call (G_Z8.mono (by decide)) hr rfl a_Z8 k_Z8 b_Z8 .nil pass0 ha) rfl (pas_cons (pd_var 0 (pv 0)) (pas_cons (pd_add (pd_add (pd_var 1 (pv 1)) pd_int) (pd_fdiv (pd_var 4 (pv 4)) pd_int)) pas_nil)) (acons_len (acons_len anil_len))) (pd_mod (pd_var 4 (pv 4)) pd_int)) pd_int)) (pssd_cons (psd_if (pc_cmp op_gt opd_gt (pd_mod (pd_call (fun t ha => pe_call (G_Z8.mono (by decide)) hr rfl a_Z8 k_Z8 b_Z8 .nil pass0 ha) rfl (pas_cons (pd_var 0 (pv 0)) (pas_cons (pd_var 1 (pv 1)) pas_nil)) (acons_len (acons_len anil_len))) pd_int) pd_int (nomark _)) (pssd_one (psd_set (i := 5) sc_Z9.nd rfl (by first | exact Or.inl rfl | exact Or.inr rfl) (pd_mul (pd_var 5 (pv 5)) (pd_band (pd_shr (pd_call (fun t ha => pe_call (G_Z8.mono (by decide)) hr rfl a_Z8 k_Z8 b_Z8 .nil pass0 ha) rfl (pas_cons (pd_var 0 (pv 0)) (pas_cons (pd_add (pd_add (pd_var 1 (pv 1)) pd_int) (pd_fdiv (pd_var 4 (pv 4)) pd_int)) pas_nil)) (acons_len (acons_len anil_len))) (pd_mod (pd_var 4 (pv 4)) pd_int)) pd_int)))) pssd_nil) (pssd_one (psd_if (pc_cmp op_eq opd_eqS (pd_var 5 (pv 5)) pd_int (nomark _)) (pssd_one (psd_append (i := 3) (pv 3) (pd_var 4 (pv 4)) (fun t ha => pe_bm PySem.F.plainAttrs_list PySem.F.slot_list_append PySem.F.type_list_append mt_append (pv 3) ha) (pas_cons (pd_var 4 (pv 4)) pas_nil))) pssd_nil))))) (pssd_one (psd_retO 3 (pv 3)))))
abbrev s_Z2 : Stmt := top 20
abbrev N_Z2 : List Str := ["cell", "k", "row", "step", "found", "up", "place", "number", "passed", "far"]
theorem sc_Z2 : FnScope N_Z2 ["cell", "k", "row", "step"] (defScope s_Z2) := ⟨rfl, rfl, rfl, by decide +kernel, rfl, by decide +kernel, by decide +kernel⟩
theorem ok_Z2 {P : Program} {w : World} {K : W.Frag} {mg : Str -> Option Value} {base : Heap} {f : Addr} {fd : FuncData} {x_Z8 : Addr} {d_Z8 : FuncData} (Fn : Fun K "_law_by_turns" "_law_by_turns" s_Z2 f fd) (G_Z8 : FnOk P w K mg base CX0 1 x_Z8 d_Z8 ["cell", "k"] (spR K 2 m_Z8)) (b_Z8 : Binds K d_Z8 ["cell", "k"] []) (k_Z8 : W.keepIn K (.ref x_Z8) = true) (a_Z8 : mg "_law_stir" = some (.ref x_Z8)) (z_abs : mg "abs" = none) (z_enumerate : mg "enumerate" = none) : FnOk P w K mg base CX0 2 f fd ["cell", "k", "row", "step"] (spR K 4 m_Z2) :=
 Fn.okD (k := 1) (m := b_Z2) sc_Z2 fun cdv A outer s H E hr => (pssd_cons (psd_setF (i := 4) sc_Z2.nd rfl (by first | exact Or.inl rfl | exact Or.inr rfl) (pf_lst pas_nil)) (pssd_cons (psd_set (i := 5) sc_Z2.nd rfl (by first | exact Or.inl rfl | exact Or.inr rfl) pd_non) (pssd_cons (psd_for PassesOwn.never rfl (pid_enum rfl z_enumerate (pas_cons (pd_var 2 (pv 2)) pas_nil)) (pgd_tup (is := [6, 7]) (pg_tup rfl (pgs_cons (pg_name (i := 6) sc_Z2.nd rfl (by first | exact Or.inl rfl | exact Or.inr rfl)) (pgs_cons (pg_name (i := 7) sc_Z2.nd rfl (by first | exact Or.inl rfl | exact Or.inr rfl)) pgs_nil)))) (pssd_cons (psd_set (i := 8) sc_Z2.nd rfl (by first | exact Or.inl rfl | exact Or.inr rfl) (pd_and (pd_cmp op_eq opd_eqS (pd_band (pd_shr (pd_call (fun t ha => pe_call (G_Z8.mono (by decide)) hr rfl a_Z8 k_Z8 b_Z8 .nil pass0 ha) rfl (pas_cons (pd_var 0 (pv 0)) (pas_cons (pd_add (pd_var 1 (pv 1)) (pd_fdiv (pd_var 6 (pv 6)) pd_int)) pas_nil)) (acons_len (acons_len anil_len))) (pd_mod (pd_var 6 (pv 6)) pd_int)) pd_int) pd_int (nomark _)) (pd_one (pd_cmp op_gt opd_gt (pd_mod (pd_var 6 (pv 6)) pd_int) pd_int (nomark _))))) (pssd_one (psd_if (pc_w (pcw_and (pc_eqB (op_eqF hr.units) (pb_var 4 (pv 4)) (pf_pb (pf_lst pas_nil)) (nomark _)) (pw1_and (pc_not (pc_tru (pd_var 8 (pv 8))))))) (pssd_one (psd_append (i := 4) (pv 4) (pd_var 6 (pv 6)) (fun t ha => pe_bm PySem.F.plainAttrs_list PySem.F.slot_list_append PySem.F.type_list_append mt_append (pv 4) ha) (pas_cons (pd_var 6 (pv 6)) pas_nil))) (pssd_one (psd_if (pc_w (pcw_and (pc_eqB (op_neF hr.units) (pb_var 4 (pv 4)) (pf_pb (pf_lst pas_nil)) (nomark _)) (pw1_and (pc_not (pc_tru (pd_var 8 (pv 8))))))) (pssd_cons (psd_set (i := 9) sc_Z2.nd rfl (by first | exact Or.inl rfl | exact Or.inr rfl) (pd_sub (pd_var 7 (pv 7)) (pd_ix (pb_var 2 (pv 2)) (pd_ix (pb_var 4 (pv 4)) (pd_neg pd_int))))) (pssd_one (psd_if (pc_w (pcw_and (pc_cmp op_ge opd_ge (pd_abs rfl z_abs (pas_cons (pd_var 9 (pv 9)) pas_nil)) (pd_var 3 (pv 3)) (nomark _)) (pw1_and (pc_cmp op_ne opd_neS (pd_var 5 (pv 5)) (pd_cmp op_gt opd_gt (pd_var 9 (pv 9)) pd_int (nomark _)) (nomark _))))) (pssd_cons (psd_set (i := 5) sc_Z2.nd rfl (by first | exact Or.inl rfl | exact Or.inr rfl) (pd_cmp op_gt opd_gt (pd_var 9 (pv 9)) pd_int (nomark _))) (pssd_one (psd_append (i := 4) (pv 4) (pd_var 6 (pv 6)) (fun t ha => pe_bm PySem.F.plainAttrs_list PySem.F.slot_list_append PySem.F.type_list_append mt_append (pv 4) ha) (pas_cons (pd_var 6 (pv 6)) pas_nil)))) pssd_nil))) pssd_nil)))))) (pssd_one (psd_retO 4 (pv 4))))))
abbrev s_Z0 : Stmt := top 21
abbrev N_Z0 : List Str := ["cell", "k", "places", "size", "at", "to", "far", "any_place", "found", "place", "turned"]
theorem sc_Z0 : FnScope N_Z0 ["cell", "k", "places", "size"] (defScope s_Z0) := ⟨rfl, rfl, rfl, by decide +kernel, rfl, by decide +kernel, by decide +kernel⟩
theorem ok_Z0 {P : Program} {w : World} {K : W.Frag} {mg : Str -> Option Value} {base : Heap} {f : Addr} {fd : FuncData} {x_Z10 : Addr} {d_Z10 : FuncData} {x_Z8 : Addr} {d_Z8 : FuncData} (Fn : Fun K "_law_odd_places" "_law_odd_places" s_Z0 f fd) (G_Z10 : FnOk P w K mg base CX0 2 x_Z10 d_Z10 ["cell", "k"] (spR K 2 m_Z10)) (b_Z10 : Binds K d_Z10 ["cell", "k"] []) (k_Z10 : W.keepIn K (.ref x_Z10) = true) (a_Z10 : mg "_law_far" = some (.ref x_Z10)) (G_Z8 : FnOk P w K mg base CX0 1 x_Z8 d_Z8 ["cell", "k"] (spR K 2 m_Z8)) (b_Z8 : Binds K d_Z8 ["cell", "k"] []) (k_Z8 : W.keepIn K (.ref x_Z8) = true) (a_Z8 : mg "_law_stir" = some (.ref x_Z8)) (z_len : mg "len" = none) (z_list : mg "list" = none) (z_max : mg "max" = none) : FnOk P w K mg base CX0 3 f fd ["cell", "k", "places", "size"] (spR K 4 m_Z0) :=
 Fn.okD (k := 2) (m := b_Z0) sc_Z0 fun cdv A outer s H E hr => (pssd_cons (psd_set (i := 4) sc_Z0.nd rfl (by first | exact Or.inl rfl | exact Or.inr rfl) (pd_mod (pd_call (fun t ha => pe_call (G_Z8.mono (by decide)) hr rfl a_Z8 k_Z8 b_Z8 .nil pass0 ha) rfl (pas_cons (pd_var 0 (pv 0)) (pas_cons (pd_var 1 (pv 1)) pas_nil)) (acons_len (acons_len anil_len))) (pd_add (pd_lenB rfl z_len (pb_var 2 (pv 2))) pd_int))) (pssd_cons (psd_set (i := 5) sc_Z0.nd rfl (by first | exact Or.inl rfl | exact Or.inr rfl) (pd_mod (pd_call (fun t ha => pe_call (G_Z8.mono (by decide)) hr rfl a_Z8 k_Z8 b_Z8 .nil pass0 ha) rfl (pas_cons (pd_var 0 (pv 0)) (pas_cons (pd_add (pd_var 1 (pv 1)) pd_int) pas_nil)) (acons_len (acons_len anil_len))) (pd_add (pd_lenB rfl z_len (pb_var 2 (pv 2))) pd_int))) (pssd_cons (psd_set (i := 6) sc_Z0.nd rfl (by first | exact Or.inl rfl | exact Or.inr rfl) (pd_call (fun t ha => pe_call (G_Z10.mono (by decide)) hr rfl a_Z10 k_Z10 b_Z10 .nil pass0 ha) rfl (pas_cons (pd_var 0 (pv 0)) (pas_cons (pd_add (pd_var 1 (pv 1)) pd_int) pas_nil)) (acons_len (acons_len anil_len)))) (pssd_cons (psd_set (i := 7) sc_Z0.nd rfl (by first | exact Or.inl rfl | exact Or.inr rfl) (pd_mod (pd_call (fun t ha => pe_call (G_Z8.mono (by decide)) hr rfl a_Z8 k_Z8 b_Z8 .nil pass0 ha) rfl (pas_cons (pd_var 0 (pv 0)) (pas_cons (pd_add (pd_var 1 (pv 1)) pd_int) pas_nil)) (acons_len (acons_len anil_len))) (pd_add (pd_var 3 (pv 3)) pd_int))) (pssd_cons (psd_setF (i := 8) sc_Z0.nd rfl (by first | exact Or.inl rfl | exact Or.inr rfl) (pf_lst (pas_cons (pf_pd (pf_cat (pf_pb (pf_sl (pb_var 2 (pv 2)) pos_none (pos_some (pd_var 4 (pv 4))))) (pf_pb (pf_sl (pb_var 2 (pv 2)) (pos_some (pd_add (pd_var 4 (pv 4)) pd_int)) pos_none)))) (pas_cons (pf_pd (pf_cat (pf_pb (pf_cat (pf_pb (pf_sl (pb_var 2 (pv 2)) pos_none (pos_some (pd_var 4 (pv 4))))) (pf_pb (pf_sl (pb_var 2 (pv 2)) (pos_some (pd_sub (pd_var 4 (pv 4)) pd_int)) (pos_some (pd_var 4 (pv 4))))))) (pf_pb (pf_sl (pb_var 2 (pv 2)) (pos_some (pd_var 4 (pv 4))) pos_none)))) (pas_cons (pf_pd (pf_rev (pb_var 2 (pv 2)) (pos_some (pd_neg pd_int)))) pas_nil))))) (pssd_cons (psd_for PassesOwn.never rfl (pid_seq (pf_pd (pf_lst (pas_cons (pd_var 7 (pv 7)) (pas_cons (pd_neg pd_int) (pas_cons (pd_sub (pd_neg pd_int) (pd_var 6 (pv 6))) (pas_cons (pd_var 3 (pv 3)) (pas_cons (pd_add (pd_var 3 (pv 3)) (pd_var 6 (pv 6))) pas_nil)))))))) (pgd_name (i := 9) (pg_name sc_Z0.nd rfl (by first | exact Or.inl rfl | exact Or.inr rfl))) (pssd_cons (psd_append (i := 8) (pv 8) (pf_pd (pf_cat (pf_pb (pf_cat (pf_pb (pf_sl (pb_var 2 (pv 2)) pos_none (pos_some (pd_var 4 (pv 4))))) (pf_pb (pf_lst (pas_cons (pd_var 9 (pv 9)) pas_nil))))) (pf_pb (pf_sl (pb_var 2 (pv 2)) (pos_some (pd_var 4 (pv 4))) pos_none)))) (fun t ha => pe_bm PySem.F.plainAttrs_list PySem.F.slot_list_append PySem.F.type_list_append mt_append (pv 8) ha) (pas_cons (pf_pd (pf_cat (pf_pb (pf_cat (pf_pb (pf_sl (pb_var 2 (pv 2)) pos_none (pos_some (pd_var 4 (pv 4))))) (pf_pb (pf_lst (pas_cons (pd_var 9 (pv 9)) pas_nil))))) (pf_pb (pf_sl (pb_var 2 (pv 2)) (pos_some (pd_var 4 (pv 4))) pos_none)))) pas_nil)) (pssd_one (psd_append (i := 8) (pv 8) (pf_pd (pf_cat (pf_pb (pf_cat (pf_pb (pf_sl (pb_var 2 (pv 2)) pos_none (pos_some (pd_var 4 (pv 4))))) (pf_pb (pf_lst (pas_cons (pd_var 9 (pv 9)) pas_nil))))) (pf_pb (pf_sl (pb_var 2 (pv 2)) (pos_some (pd_add (pd_var 4 (pv 4)) pd_int)) pos_none)))) (fun t ha => pe_bm PySem.F.plainAttrs_list PySem.F.slot_list_append PySem.F.type_list_append mt_append (pv 8) ha) (pas_cons (pf_pd (pf_cat (pf_pb (pf_cat (pf_pb (pf_sl (pb_var 2 (pv 2)) pos_none (pos_some (pd_var 4 (pv 4))))) (pf_pb (pf_lst (pas_cons (pd_var 9 (pv 9)) pas_nil))))) (pf_pb (pf_sl (pb_var 2 (pv 2)) (pos_some (pd_add (pd_var 4 (pv 4)) pd_int)) pos_none)))) pas_nil))))) (pssd_freeze 8 (pssd_cons (psd_setF (i := 10) sc_Z0.nd rfl (by first | exact Or.inl rfl | exact Or.inr rfl) (pf_list rfl z_list (pb_var 2 (pv 2)) PyProof.Rows.boot_list)) (pssd_cons (psd_if (pc_cmp op_lt opd_lt (pd_max2 rfl rfl z_max (pas_cons (pd_var 4 (pv 4)) (pas_cons (pd_var 5 (pv 5)) pas_nil))) (pd_lenB rfl z_len (pb_var 2 (pv 2))) (nomark _)) (pssd_one (psd_setix2 (i := 10) (ps_asg (pd_tup (pas_cons (pd_ix (pb_var 2 (pv 2)) (pd_var 5 (pv 5))) (pas_cons (pd_ix (pb_var 2 (pv 2)) (pd_var 4 (pv 4))) pas_nil))) (pg_tup rfl (pgs_cons (pg_sub (pv 10) (pd_var 4 (pv 4)) set_list) (pgs_cons (pg_sub (pv 10) (pd_var 5 (pv 5)) set_list) pgs_nil)))))) pssd_nil) (pssd_freeze 10 (pssd_one (psd_retF (pf_cat (pb_var 8 (pv 8)) (pf_pb (pf_lst (pas_cons (pd_var 10 (pv 10)) (pas_cons (pf_pd (pf_lst pas_nil)) pas_nil)))))))))))))))))
abbrev s_Z3 : Stmt := top 22
abbrev N_Z3 : List Str := ["row", "places", "found", "handed", "e"]
theorem sc_Z3 : FnScope N_Z3 ["row", "places"] (defScope s_Z3) := ⟨rfl, rfl, rfl, by decide +kernel, rfl, by decide +kernel, by decide +kernel⟩
theorem ok_Z3 {P : Program} {w : World} {K : W.Frag} {mg : Str -> Option Value} {base : Heap} {f : Addr} {fd : FuncData} {x_Z6 : Addr} {d_Z6 : FuncData} {x_Z1 : Addr} {d_Z1 : FuncData} (Fn : Fun K "_law_refused" "_law_refused" s_Z3 f fd) (G_Z6 : FnOkN P w K mg base CX0 1 x_Z6 d_Z6 ["e"] (spR K 1 m_Z6)) (b_Z6 : Binds K d_Z6 ["e"] []) (k_Z6 : W.keepIn K (.ref x_Z6) = true) (a_Z6 : mg "_law_flags" = some (.ref x_Z6)) (G_Z1 : FnOk P w K mg base CX0 2 x_Z1 d_Z1 ["row", "places"] (spR K 2 m_Z1)) (b_Z1 : Binds K d_Z1 ["row", "places"] []) (k_Z1 : W.keepIn K (.ref x_Z1) = true) (a_Z1 : mg "how_many_turns" = some (.ref x_Z1)) (GX_Z1 : FnOk P w K mg base (CXx P w) 2 x_Z1 d_Z1 ["row", "places"] (spX K 2 xm_Z1)) {y_WaveError : Addr} (a_WaveError : mg "WaveError" = some (.ref y_WaveError)) (hcl_WaveError : ∀ c ∈ (["NoPlace"] : List Str), ∀ C, XC K c C -> W.exmOne K (.ref C) (.ref y_WaveError) = some true) (z_list : mg "list" = none) : FnOk P w K mg base CX0 3 f fd ["row", "places"] (spR K 2 m_Z3) :=
 Fn.okD (k := 2) (m := b_Z3) sc_Z3 fun cdv A outer s H E hr => (pssd_cons (psd_setF (i := 2) sc_Z3.nd rfl (by first | exact Or.inl rfl | exact Or.inr rfl) (pf_lst pas_nil)) (pssd_cons (psd_set (i := 3) sc_Z3.nd rfl (by first | exact Or.inl rfl | exact Or.inr rfl) (pf_pd (pf_lst (pas_cons (pf_pd (pf_list rfl z_list (pb_var 0 (pv 0)) PyProof.Rows.boot_list)) (pas_cons (pf_pd (pf_list rfl z_list (pb_var 1 (pv 1)) PyProof.Rows.boot_list)) pas_nil))))) (pssd_cons (psd_try (names := ["NoPlace"]) (i := 4) rfl ⟨rfl, rfl, rfl⟩ rfl a_WaveError hcl_WaveError sc_Z3.nd rfl rfl (pssd_one (psd_expr (pd_call (fun t ha => pe_call (G_Z1.mono (by decide)) hr rfl a_Z1 k_Z1 b_Z1 .nil pass0 ha) rfl (pas_cons (pd_ix (pb_var 3 (pv 3)) pd_int) (pas_cons (pd_ix (pb_var 3 (pv 3)) pd_int) pas_nil)) (acons_len (acons_len anil_len))))) (pssx_one (psx_expr (pex_call rfl ⟨rfl, rfl, rfl⟩ (GX_Z1.mono (by decide)) hr rfl a_Z1 k_Z1 b_Z1 rfl (pas_cons (pd_ix (pb_var 3 (pv 3)) pd_int) (pas_cons (pd_ix (pb_var 3 (pv 3)) pd_int) pas_nil)) (acons_len (acons_len anil_len))))) (fun a => (pssd_one (psd_setF (i := 2) sc_Z3.nd rfl (by first | exact Or.inl rfl | exact Or.inr rfl) (pf_call (fun t ha => pe_callN (G_Z6.mono (by decide)) (hr.mark _) rfl a_Z6 k_Z6 b_Z6 .nil pass0 ha) rfl (pas_cons (pd_var 4 (pv 4)) pas_nil) (acons_len anil_len)))))) (pssd_cons (psd_if (pc_eqB (op_neF hr.units) (pb_var 3 (pv 3)) (pf_pb (pf_lst (pas_cons (pd_var 0 (pv 0)) (pas_cons (pd_var 1 (pv 1)) pas_nil)))) (nomark _)) (pssd_one (psd_retF (pf_lst (pas_cons pd_str pas_nil)))) pssd_nil) (pssd_one (psd_retO 2 (pv 2)))))))
abbrev s_Z12 : Stmt := top 23
abbrev N_Z12 : List Str := ["script", "cell", "row", "places", "some", "beyond", "good"]
theorem sc_Z12 : FnScope N_Z12 ["script"] (defScope s_Z12) := ⟨rfl, rfl, rfl, by decide +kernel, rfl, by decide +kernel, by decide +kernel⟩
theorem nd_law_0 : List.Nodup (["place", "row"] : List Str) := by decide +kernel
theorem nd_law_1 : List.Nodup (["k"] : List Str) := by decide +kernel
theorem ok_Z12 {P : Program} {w : World} {K : W.Frag} {mg : Str -> Option Value} {base : Heap} {f : Addr} {fd : FuncData} {x_Z2 : Addr} {d_Z2 : FuncData} {x_Z5 : Addr} {d_Z5 : FuncData} {x_Z0 : Addr} {d_Z0 : FuncData} {x_Z3 : Addr} {d_Z3 : FuncData} {x_Z11 : Addr} {d_Z11 : FuncData} {x_Z9 : Addr} {d_Z9 : FuncData} (Fn : Fun K "law" "law" s_Z12 f fd) (G_Z2 : FnOk P w K mg base CX0 2 x_Z2 d_Z2 ["cell", "k", "row", "step"] (spR K 4 m_Z2)) (b_Z2 : Binds K d_Z2 ["cell", "k", "row", "step"] []) (k_Z2 : W.keepIn K (.ref x_Z2) = true) (a_Z2 : mg "_law_by_turns" = some (.ref x_Z2)) (G_Z5 : FnOk P w K mg base CX0 1 x_Z5 d_Z5 ["script", "many"] (spR K 2 m_Z5)) (b_Z5 : Binds K d_Z5 ["script", "many"] []) (k_Z5 : W.keepIn K (.ref x_Z5) = true) (a_Z5 : mg "_law_cells" = some (.ref x_Z5)) (G_Z0 : FnOk P w K mg base CX0 3 x_Z0 d_Z0 ["cell", "k", "places", "size"] (spR K 4 m_Z0)) (b_Z0 : Binds K d_Z0 ["cell", "k", "places", "size"] []) (k_Z0 : W.keepIn K (.ref x_Z0) = true) (a_Z0 : mg "_law_odd_places" = some (.ref x_Z0)) (G_Z3 : FnOk P w K mg base CX0 3 x_Z3 d_Z3 ["row", "places"] (spR K 2 m_Z3)) (b_Z3 : Binds K d_Z3 ["row", "places"] []) (k_Z3 : W.keepIn K (.ref x_Z3) = true) (a_Z3 : mg "_law_refused" = some (.ref x_Z3)) (G_Z11 : FnOk P w K mg base CX0 2 x_Z11 d_Z11 ["cell", "most"] (spR K 2 m_Z11)) (b_Z11 : Binds K d_Z11 ["cell", "most"] []) (k_Z11 : W.keepIn K (.ref x_Z11) = true) (a_Z11 : mg "_law_row" = some (.ref x_Z11)) (G_Z9 : FnOk P w K mg base CX0 2 x_Z9 d_Z9 ["cell", "k", "size"] (spR K 3 m_Z9)) (b_Z9 : Binds K d_Z9 ["cell", "k", "size"] []) (k_Z9 : W.keepIn K (.ref x_Z9) = true) (a_Z9 : mg "_law_some" = some (.ref x_Z9)) (z_int : mg "int" = none) (z_len : mg "len" = none) (z_range : mg "range" = none) (z_set : mg "set" = none) (z_sorted : mg "sorted" = none) : FnOk P w K mg base CX0 4 f fd ["script"] (spR K 1 m_Z12) :=
 Fn.okD (k := 3) (m := b_Z12) sc_Z12 fun cdv A outer s H E hr => (pssd_cons (psd_for PassesOwn.never rfl (pid_seq (pd_call (fun t ha => pe_call (G_Z5.mono (by decide)) hr rfl a_Z5 k_Z5 b_Z5 .nil pass0 ha) rfl (pas_cons (pd_var 0 (pv 0)) (pas_cons pd_int pas_nil)) (acons_len (acons_len anil_len)))) (pgd_name (i := 1) (pg_name sc_Z12.nd rfl (by first | exact Or.inl rfl | exact Or.inr rfl))) (pssd_cons (psd_set (i := 2) sc_Z12.nd rfl (by first | exact Or.inl rfl | exact Or.inr rfl) (pd_call (fun t ha => pe_call (G_Z11.mono (by decide)) hr rfl a_Z11 k_Z11 b_Z11 .nil pass0 ha) rfl (pas_cons (pd_var 1 (pv 1)) (pas_cons pd_int pas_nil)) (acons_len (acons_len anil_len)))) (pssd_one (psd_for PassesOwn.never rfl (pid_seq (pf_pd (pf_lst (pas_cons (pd_call (fun t ha => pe_call (G_Z9.mono (by decide)) hr rfl a_Z9 k_Z9 b_Z9 .nil pass0 ha) rfl (pas_cons (pd_var 1 (pv 1)) (pas_cons pd_int (pas_cons (pd_lenB rfl z_len (pb_var 2 (pv 2))) pas_nil))) (acons_len (acons_len (acons_len anil_len)))) (pas_cons (pd_call (fun t ha => pe_call (G_Z2.mono (by decide)) hr rfl a_Z2 k_Z2 b_Z2 .nil pass0 ha) rfl (pas_cons (pd_var 1 (pv 1)) (pas_cons pd_int (pas_cons (pd_var 2 (pv 2)) (pas_cons pd_int pas_nil)))) (acons_len (acons_len (acons_len (acons_len anil_len))))) pas_nil))))) (pgd_name (i := 3) (pg_name sc_Z12.nd rfl (by first | exact Or.inl rfl | exact Or.inr rfl))) (pssd_one (psd_for PassesOwn.never rfl (pid_seq (pf_pd (pf_cat (pf_pb (pf_lst (pas_cons (pd_var 3 (pv 3)) pas_nil))) (pd_pb (pd_call (fun t ha => pe_call (G_Z0.mono (by decide)) hr rfl a_Z0 k_Z0 b_Z0 .nil pass0 ha) rfl (pas_cons (pd_var 1 (pv 1)) (pas_cons pd_int (pas_cons (pd_var 3 (pv 3)) (pas_cons (pd_lenB rfl z_len (pb_var 2 (pv 2))) pas_nil)))) (acons_len (acons_len (acons_len (acons_len anil_len))))))))) (pgd_name (i := 4) (pg_name sc_Z12.nd rfl (by first | exact Or.inl rfl | exact Or.inr rfl))) (pssd_cons (psd_setCs (ps_setC (i := 5) sc_Z12.nd rfl (by first | exact Or.inl rfl | exact Or.inr rfl) (blk_of (N := ["place", "row"]) (src := [none, some 2]) (defScope s_Z12) N_Z12 rfl rfl (by decide +kernel)) rfl (pid_seq (pd_var 4 (pv 4))) (fun C fp s0 H0 => (pgd_name (i := 0) (pg_name nd_law_0 rfl (by first | exact Or.inl rfl | exact Or.inr rfl)))) (fun C fp s0 H0 => (ptsd_one (pc_not (pc_chain op_le opd_le op_lt opd_lt pd_int (pd_var 0 (pv 0)) (pd_lenB rfl z_len (pb_var 1 (pv 1))))))) (fun C fp s0 H0 => (pd_var 0 (pv 0))))) (pssd_cons (psd_set (i := 6) sc_Z12.nd rfl (by first | exact Or.inl rfl | exact Or.inr rfl) (pd_and (pd_eqB (op_eqF hr.units) (pb_var 4 (pv 4)) (pf_pb (pf_sortSetA rfl rfl z_sorted rfl z_set (pb_var 4 (pv 4)) PyProof.Rows.boot_sorted PyProof.Rows.boot_set)) (nomark _)) (pd_one (pd_eqB (op_eqF hr.units) (pb_var 5 (pv 5)) (pf_pb (pf_lst pas_nil)) (nomark _))))) (pssd_one (psd_if (pc_eqB (op_neF hr.units) (pd_pb (pd_call (fun t ha => pe_call (G_Z3.mono (by decide)) hr rfl a_Z3 k_Z3 b_Z3 .nil pass0 ha) rfl (pas_cons (pd_var 2 (pv 2)) (pas_cons (pd_var 4 (pv 4)) pas_nil)) (acons_len (acons_len anil_len)))) (pf_pb (pf_comp (blk_of (N := ["k"]) (src := [none]) (defScope s_Z12) N_Z12 rfl rfl (by decide +kernel)) rfl (pid_range1 rfl z_range (pas_cons (pd_mul pd_int (pd_intc rfl z_int (pas_cons (pd_not (pd_var 6 (pv 6))) pas_nil) PyProof.Rows.boot_int)) pas_nil)) (fun C fp s0 H0 => (pgd_name (i := 0) (pg_name nd_law_1 rfl (by first | exact Or.inl rfl | exact Or.inr rfl)))) (fun C fp s0 H0 => ptsd_nil) (fun C fp s0 H0 => (pd_cmp op_eq opd_eqS (pd_var 0 (pv 0)) pd_int (nomark _))))) (nomark _)) (pssd_one (psd_ret pd_bl)) pssd_nil)))))))))) (pssd_one (psd_ret pd_bl)))
theorem all_mk {l : W.OpenLaw} {w : World} {K : W.Frag} {h : Heap} {mg : Str -> Option Value} {fa x_Z4 x_Z7 x_Z1 x_Z8 x_Z5 x_Z11 x_Z6 x_Z10 x_Z9 x_Z2 x_Z0 x_Z3 x_Z12 : Addr} (X : K.In h) (G : h.Ns mainGlobals mg) (hfa : mg "law" = some (.ref fa)) {o1_Z4 o2_Z4 : Option Addr} {sl_Z4 : Array (Option Value)} {oc_Z4 kV_Z4 dc_Z4 pm_Z4 cd_Z4 ct_Z4 : Value} {o1_Z7 o2_Z7 : Option Addr} {sl_Z7 : Array (Option Value)} {oc_Z7 kV_Z7 dc_Z7 pm_Z7 cd_Z7 ct_Z7 : Value} {o1_Z1 o2_Z1 : Option Addr} {sl_Z1 : Array (Option Value)} {oc_Z1 kV_Z1 dc_Z1 pm_Z1 cd_Z1 ct_Z1 : Value} {o1_Z8 o2_Z8 : Option Addr} {sl_Z8 : Array (Option Value)} {oc_Z8 kV_Z8 dc_Z8 pm_Z8 cd_Z8 ct_Z8 : Value} {o1_Z5 o2_Z5 : Option Addr} {sl_Z5 : Array (Option Value)} {oc_Z5 kV_Z5 dc_Z5 pm_Z5 cd_Z5 ct_Z5 : Value} {o1_Z11 o2_Z11 : Option Addr} {sl_Z11 : Array (Option Value)} {oc_Z11 kV_Z11 dc_Z11 pm_Z11 cd_Z11 ct_Z11 : Value} {o1_Z6 o2_Z6 : Option Addr} {sl_Z6 : Array (Option Value)} {oc_Z6 kV_Z6 dc_Z6 pm_Z6 cd_Z6 ct_Z6 : Value} {o1_Z10 o2_Z10 : Option Addr} {sl_Z10 : Array (Option Value)} {oc_Z10 kV_Z10 dc_Z10 pm_Z10 cd_Z10 ct_Z10 : Value} {o1_Z9 o2_Z9 : Option Addr} {sl_Z9 : Array (Option Value)} {oc_Z9 kV_Z9 dc_Z9 pm_Z9 cd_Z9 ct_Z9 : Value} {o1_Z2 o2_Z2 : Option Addr} {sl_Z2 : Array (Option Value)} {oc_Z2 kV_Z2 dc_Z2 pm_Z2 cd_Z2 ct_Z2 : Value} {o1_Z0 o2_Z0 : Option Addr} {sl_Z0 : Array (Option Value)} {oc_Z0 kV_Z0 dc_Z0 pm_Z0 cd_Z0 ct_Z0 : Value} {o1_Z3 o2_Z3 : Option Addr} {sl_Z3 : Array (Option Value)} {oc_Z3 kV_Z3 dc_Z3 pm_Z3 cd_Z3 ct_Z3 : Value} {o1_Z12 o2_Z12 : Option Addr} {sl_Z12 : Array (Option Value)} {oc_Z12 kV_Z12 dc_Z12 pm_Z12 cd_Z12 ct_Z12 : Value}
  (e_Z4 : W.nsIn K mainGlobals "are_places" = some (some (.ref x_Z4))) (l_Z4 : K.lookup x_Z4 = some ⟨oc_Z4, o1_Z4, .func (W.fnOf "are_places" "are_places" (defArgs s_Z4) (defBody s_Z4) (defScope s_Z4) .none kV_Z4 dc_Z4 pm_Z4 o2_Z4 cd_Z4 ct_Z4), sl_Z4⟩) (c_Z4 : W.codeIn K cd_Z4 "are_places" = true) (k_Z4 : W.keepIn K (.ref x_Z4) = true)
  (e_Z7 : W.nsIn K mainGlobals "turns_of" = some (some (.ref x_Z7))) (l_Z7 : K.lookup x_Z7 = some ⟨oc_Z7, o1_Z7, .func (W.fnOf "turns_of" "turns_of" (defArgs s_Z7) (defBody s_Z7) (defScope s_Z7) .none kV_Z7 dc_Z7 pm_Z7 o2_Z7 cd_Z7 ct_Z7), sl_Z7⟩) (c_Z7 : W.codeIn K cd_Z7 "turns_of" = true) (k_Z7 : W.keepIn K (.ref x_Z7) = true)
  (e_Z1 : W.nsIn K mainGlobals "how_many_turns" = some (some (.ref x_Z1))) (l_Z1 : K.lookup x_Z1 = some ⟨oc_Z1, o1_Z1, .func (W.fnOf "how_many_turns" "how_many_turns" (defArgs s_Z1) (defBody s_Z1) (defScope s_Z1) .none kV_Z1 dc_Z1 pm_Z1 o2_Z1 cd_Z1 ct_Z1), sl_Z1⟩) (c_Z1 : W.codeIn K cd_Z1 "how_many_turns" = true) (k_Z1 : W.keepIn K (.ref x_Z1) = true)
  (e_Z8 : W.nsIn K mainGlobals "_law_stir" = some (some (.ref x_Z8))) (l_Z8 : K.lookup x_Z8 = some ⟨oc_Z8, o1_Z8, .func (W.fnOf "_law_stir" "_law_stir" (defArgs s_Z8) (defBody s_Z8) (defScope s_Z8) .none kV_Z8 dc_Z8 pm_Z8 o2_Z8 cd_Z8 ct_Z8), sl_Z8⟩) (c_Z8 : W.codeIn K cd_Z8 "_law_stir" = true) (k_Z8 : W.keepIn K (.ref x_Z8) = true)
  (e_Z5 : W.nsIn K mainGlobals "_law_cells" = some (some (.ref x_Z5))) (l_Z5 : K.lookup x_Z5 = some ⟨oc_Z5, o1_Z5, .func (W.fnOf "_law_cells" "_law_cells" (defArgs s_Z5) (defBody s_Z5) (defScope s_Z5) .none kV_Z5 dc_Z5 pm_Z5 o2_Z5 cd_Z5 ct_Z5), sl_Z5⟩) (c_Z5 : W.codeIn K cd_Z5 "_law_cells" = true) (k_Z5 : W.keepIn K (.ref x_Z5) = true)
  (e_Z11 : W.nsIn K mainGlobals "_law_row" = some (some (.ref x_Z11))) (l_Z11 : K.lookup x_Z11 = some ⟨oc_Z11, o1_Z11, .func (W.fnOf "_law_row" "_law_row" (defArgs s_Z11) (defBody s_Z11) (defScope s_Z11) .none kV_Z11 dc_Z11 pm_Z11 o2_Z11 cd_Z11 ct_Z11), sl_Z11⟩) (c_Z11 : W.codeIn K cd_Z11 "_law_row" = true) (k_Z11 : W.keepIn K (.ref x_Z11) = true)
  (e_Z6 : W.nsIn K mainGlobals "_law_flags" = some (some (.ref x_Z6))) (l_Z6 : K.lookup x_Z6 = some ⟨oc_Z6, o1_Z6, .func (W.fnOf "_law_flags" "_law_flags" (defArgs s_Z6) (defBody s_Z6) (defScope s_Z6) .none kV_Z6 dc_Z6 pm_Z6 o2_Z6 cd_Z6 ct_Z6), sl_Z6⟩) (c_Z6 : W.codeIn K cd_Z6 "_law_flags" = true) (k_Z6 : W.keepIn K (.ref x_Z6) = true)
  (e_Z10 : W.nsIn K mainGlobals "_law_far" = some (some (.ref x_Z10))) (l_Z10 : K.lookup x_Z10 = some ⟨oc_Z10, o1_Z10, .func (W.fnOf "_law_far" "_law_far" (defArgs s_Z10) (defBody s_Z10) (defScope s_Z10) .none kV_Z10 dc_Z10 pm_Z10 o2_Z10 cd_Z10 ct_Z10), sl_Z10⟩) (c_Z10 : W.codeIn K cd_Z10 "_law_far" = true) (k_Z10 : W.keepIn K (.ref x_Z10) = true)
  (e_Z9 : W.nsIn K mainGlobals "_law_some" = some (some (.ref x_Z9))) (l_Z9 : K.lookup x_Z9 = some ⟨oc_Z9, o1_Z9, .func (W.fnOf "_law_some" "_law_some" (defArgs s_Z9) (defBody s_Z9) (defScope s_Z9) .none kV_Z9 dc_Z9 pm_Z9 o2_Z9 cd_Z9 ct_Z9), sl_Z9⟩) (c_Z9 : W.codeIn K cd_Z9 "_law_some" = true) (k_Z9 : W.keepIn K (.ref x_Z9) = true)
  (e_Z2 : W.nsIn K mainGlobals "_law_by_turns" = some (some (.ref x_Z2))) (l_Z2 : K.lookup x_Z2 = some ⟨oc_Z2, o1_Z2, .func (W.fnOf "_law_by_turns" "_law_by_turns" (defArgs s_Z2) (defBody s_Z2) (defScope s_Z2) .none kV_Z2 dc_Z2 pm_Z2 o2_Z2 cd_Z2 ct_Z2), sl_Z2⟩) (c_Z2 : W.codeIn K cd_Z2 "_law_by_turns" = true) (k_Z2 : W.keepIn K (.ref x_Z2) = true)
  (e_Z0 : W.nsIn K mainGlobals "_law_odd_places" = some (some (.ref x_Z0))) (l_Z0 : K.lookup x_Z0 = some ⟨oc_Z0, o1_Z0, .func (W.fnOf "_law_odd_places" "_law_odd_places" (defArgs s_Z0) (defBody s_Z0) (defScope s_Z0) .none kV_Z0 dc_Z0 pm_Z0 o2_Z0 cd_Z0 ct_Z0), sl_Z0⟩) (c_Z0 : W.codeIn K cd_Z0 "_law_odd_places" = true) (k_Z0 : W.keepIn K (.ref x_Z0) = true)
  (e_Z3 : W.nsIn K mainGlobals "_law_refused" = some (some (.ref x_Z3))) (l_Z3 : K.lookup x_Z3 = some ⟨oc_Z3, o1_Z3, .func (W.fnOf "_law_refused" "_law_refused" (defArgs s_Z3) (defBody s_Z3) (defScope s_Z3) .none kV_Z3 dc_Z3 pm_Z3 o2_Z3 cd_Z3 ct_Z3), sl_Z3⟩) (c_Z3 : W.codeIn K cd_Z3 "_law_refused" = true) (k_Z3 : W.keepIn K (.ref x_Z3) = true)
  (e_Z12 : W.nsIn K mainGlobals "law" = some (some (.ref x_Z12))) (l_Z12 : K.lookup x_Z12 = some ⟨oc_Z12, o1_Z12, .func (W.fnOf "law" "law" (defArgs s_Z12) (defBody s_Z12) (defScope s_Z12) .none kV_Z12 dc_Z12 pm_Z12 o2_Z12 cd_Z12 ct_Z12), sl_Z12⟩) (c_Z12 : W.codeIn K cd_Z12 "law" = true) (k_Z12 : W.keepIn K (.ref x_Z12) = true) {y_NoForm : Addr} {y_NoNumber : Addr} {y_NoPlace : Addr} {y_NoStep : Addr} {y_NoText : Addr} {y_NoWeights : Addr} {y_NoneYet : Addr} {y_WaveError : Addr}
  (e_NoForm : W.nsIn K mainGlobals "NoForm" = some (some (.ref y_NoForm)))
  (e_NoNumber : W.nsIn K mainGlobals "NoNumber" = some (some (.ref y_NoNumber)))
  (e_NoPlace : W.nsIn K mainGlobals "NoPlace" = some (some (.ref y_NoPlace)))
  (e_NoStep : W.nsIn K mainGlobals "NoStep" = some (some (.ref y_NoStep)))
  (e_NoText : W.nsIn K mainGlobals "NoText" = some (some (.ref y_NoText)))
  (e_NoWeights : W.nsIn K mainGlobals "NoWeights" = some (some (.ref y_NoWeights)))
  (e_NoneYet : W.nsIn K mainGlobals "NoneYet" = some (some (.ref y_NoneYet)))
  (e_WaveError : W.nsIn K mainGlobals "WaveError" = some (some (.ref y_WaveError)))
  (n_NoPlace : xName K y_NoPlace = some "NoPlace")
  (q_NoPlace : W.excIn K y_NoPlace bmV "ValueError.__new__" = true)
  (w_NoPlace : xclsB K y_NoPlace = true)
  (m_NoPlace_WaveError : W.exmOne K (.ref y_NoPlace) (.ref y_WaveError) = some true)
  (i_NoPlace_NoForm : W.kitOne K (.ref y_NoPlace) (.ref y_NoForm) = some false)
  (i_NoPlace_NoNumber : W.kitOne K (.ref y_NoPlace) (.ref y_NoNumber) = some false)
  (i_NoPlace_NoPlace : W.kitOne K (.ref y_NoPlace) (.ref y_NoPlace) = some true)
  (i_NoPlace_NoStep : W.kitOne K (.ref y_NoPlace) (.ref y_NoStep) = some false)
  (i_NoPlace_NoText : W.kitOne K (.ref y_NoPlace) (.ref y_NoText) = some false)
  (i_NoPlace_NoWeights : W.kitOne K (.ref y_NoPlace) (.ref y_NoWeights) = some false)
  (i_NoPlace_NoneYet : W.kitOne K (.ref y_NoPlace) (.ref y_NoneYet) = some false)
  (j_NoPlace_ValueError : W.kitOne K (.ref y_NoPlace) (.type "ValueError") = some true)
  (y_ValueError : W.nsIn K mainGlobals "ValueError" = some none)
  (y_abs : W.nsIn K mainGlobals "abs" = some none)
  (y_enumerate : W.nsIn K mainGlobals "enumerate" = some none)
  (y_int : W.nsIn K mainGlobals "int" = some none)
  (y_isinstance : W.nsIn K mainGlobals "isinstance" = some none)
  (y_len : W.nsIn K mainGlobals "len" = some none)
  (y_list : W.nsIn K mainGlobals "list" = some none)
  (y_max : W.nsIn K mainGlobals "max" = some none)
  (y_min : W.nsIn K mainGlobals "min" = some none)
  (y_range : W.nsIn K mainGlobals "range" = some none)
  (y_set : W.nsIn K mainGlobals "set" = some none)
  (y_sorted : W.nsIn K mainGlobals "sorted" = some none)
  (y_zip : W.nsIn K mainGlobals "zip" = some none) :
  ∃ fd : FuncData, (∀ (s : Shared) (v : Value), BindsTo s fd ⟨[v], []⟩ [("script", v)]) /\ ∀ base : Heap, K.In base -> base.Ns mainGlobals mg -> FnOk l.prog w K mg base CX0 4 fa fd ["script"] (spR K 1 m_Z12) := by
 have e := hfa.symm.trans (W.mg_of X G e_Z12)
 cases e
 have F_Z4 := fun_mk (st := s_Z4) l_Z4 c_Z4 k_Z4
 have b_Z4 := F_Z4.binds (ps := ["row", "places"]) fun _ _ _ _ _ _ us hl => by refine us2 (P := fun vs => bindArgs _ { pos := vs } = pure (List.zip _ vs)) ?_ us hl; intros; rfl
 have a_Z4 := W.mg_of X G e_Z4
 have F_Z7 := fun_mk (st := s_Z7) l_Z7 c_Z7 k_Z7
 have b_Z7 := F_Z7.binds (ps := ["numbers"]) fun _ _ _ _ _ _ us hl => by refine us1 (P := fun vs => bindArgs _ { pos := vs } = pure (List.zip _ vs)) ?_ us hl; intros; rfl
 have a_Z7 := W.mg_of X G e_Z7
 have F_Z1 := fun_mk (st := s_Z1) l_Z1 c_Z1 k_Z1
 have b_Z1 := F_Z1.binds (ps := ["row", "places"]) fun _ _ _ _ _ _ us hl => by refine us2 (P := fun vs => bindArgs _ { pos := vs } = pure (List.zip _ vs)) ?_ us hl; intros; rfl
 have a_Z1 := W.mg_of X G e_Z1
 have F_Z8 := fun_mk (st := s_Z8) l_Z8 c_Z8 k_Z8
 have b_Z8 := F_Z8.binds (ps := ["cell", "k"]) fun _ _ _ _ _ _ us hl => by refine us2 (P := fun vs => bindArgs _ { pos := vs } = pure (List.zip _ vs)) ?_ us hl; intros; rfl
 have a_Z8 := W.mg_of X G e_Z8
 have F_Z5 := fun_mk (st := s_Z5) l_Z5 c_Z5 k_Z5
 have b_Z5 := F_Z5.binds (ps := ["script", "many"]) fun _ _ _ _ _ _ us hl => by refine us2 (P := fun vs => bindArgs _ { pos := vs } = pure (List.zip _ vs)) ?_ us hl; intros; rfl
 have a_Z5 := W.mg_of X G e_Z5
 have F_Z11 := fun_mk (st := s_Z11) l_Z11 c_Z11 k_Z11
 have b_Z11 := F_Z11.binds (ps := ["cell", "most"]) fun _ _ _ _ _ _ us hl => by refine us2 (P := fun vs => bindArgs _ { pos := vs } = pure (List.zip _ vs)) ?_ us hl; intros; rfl
 have a_Z11 := W.mg_of X G e_Z11
 have F_Z6 := fun_mk (st := s_Z6) l_Z6 c_Z6 k_Z6
 have b_Z6 := F_Z6.binds (ps := ["e"]) fun _ _ _ _ _ _ us hl => by refine us1 (P := fun vs => bindArgs _ { pos := vs } = pure (List.zip _ vs)) ?_ us hl; intros; rfl
 have a_Z6 := W.mg_of X G e_Z6
 have F_Z10 := fun_mk (st := s_Z10) l_Z10 c_Z10 k_Z10
 have b_Z10 := F_Z10.binds (ps := ["cell", "k"]) fun _ _ _ _ _ _ us hl => by refine us2 (P := fun vs => bindArgs _ { pos := vs } = pure (List.zip _ vs)) ?_ us hl; intros; rfl
 have a_Z10 := W.mg_of X G e_Z10
 have F_Z9 := fun_mk (st := s_Z9) l_Z9 c_Z9 k_Z9
 have b_Z9 := F_Z9.binds (ps := ["cell", "k", "size"]) fun _ _ _ _ _ _ us hl => by refine us3 (P := fun vs => bindArgs _ { pos := vs } = pure (List.zip _ vs)) ?_ us hl; intros; rfl
 have a_Z9 := W.mg_of X G e_Z9
 have F_Z2 := fun_mk (st := s_Z2) l_Z2 c_Z2 k_Z2
 have b_Z2 := F_Z2.binds (ps := ["cell", "k", "row", "step"]) fun _ _ _ _ _ _ us hl => by refine us4 (P := fun vs => bindArgs _ { pos := vs } = pure (List.zip _ vs)) ?_ us hl; intros; rfl
 have a_Z2 := W.mg_of X G e_Z2
 have F_Z0 := fun_mk (st := s_Z0) l_Z0 c_Z0 k_Z0
 have b_Z0 := F_Z0.binds (ps := ["cell", "k", "places", "size"]) fun _ _ _ _ _ _ us hl => by refine us4 (P := fun vs => bindArgs _ { pos := vs } = pure (List.zip _ vs)) ?_ us hl; intros; rfl
 have a_Z0 := W.mg_of X G e_Z0
 have F_Z3 := fun_mk (st := s_Z3) l_Z3 c_Z3 k_Z3
 have b_Z3 := F_Z3.binds (ps := ["row", "places"]) fun _ _ _ _ _ _ us hl => by refine us2 (P := fun vs => bindArgs _ { pos := vs } = pure (List.zip _ vs)) ?_ us hl; intros; rfl
 have a_Z3 := W.mg_of X G e_Z3
 have F_Z12 := fun_mk (st := s_Z12) l_Z12 c_Z12 k_Z12
 have b_Z12 := F_Z12.binds (ps := ["script"]) fun _ _ _ _ _ _ us hl => by refine us1 (P := fun vs => bindArgs _ { pos := vs } = pure (List.zip _ vs)) ?_ us hl; intros; rfl
 have a_Z12 := W.mg_of X G e_Z12
 have z_ValueError := W.mg_none_of X G y_ValueError
 have z_abs := W.mg_none_of X G y_abs
 have z_enumerate := W.mg_none_of X G y_enumerate
 have z_int := W.mg_none_of X G y_int
 have z_isinstance := W.mg_none_of X G y_isinstance
 have z_len := W.mg_none_of X G y_len
 have z_list := W.mg_none_of X G y_list
 have z_max := W.mg_none_of X G y_max
 have z_min := W.mg_none_of X G y_min
 have z_range := W.mg_none_of X G y_range
 have z_set := W.mg_none_of X G y_set
 have z_sorted := W.mg_none_of X G y_sorted
 have z_zip := W.mg_none_of X G y_zip
 have a_NoForm := W.mg_of X G e_NoForm
 have a_NoNumber := W.mg_of X G e_NoNumber
 have a_NoPlace := W.mg_of X G e_NoPlace
 have a_NoStep := W.mg_of X G e_NoStep
 have a_NoText := W.mg_of X G e_NoText
 have a_NoWeights := W.mg_of X G e_NoWeights
 have a_NoneYet := W.mg_of X G e_NoneYet
 have a_WaveError := W.mg_of X G e_WaveError
 have xc_NoPlace : XC K "NoPlace" y_NoPlace := ⟨e_NoPlace, n_NoPlace⟩
 have hcl_WaveError : ∀ c ∈ (["NoPlace"] : List Str), ∀ C, XC K c C -> W.exmOne K (.ref C) (.ref y_WaveError) = some true := by
  intro c hc C h
  simp only [mem_cons, not_mem_nil, or_false] at hc
  rcases hc with rfl
  ·rw [h.eq e_NoPlace]; exact m_NoPlace_WaveError
 have hi_NoForm : ∀ c k, ([("NoPlace", false)] : List (Str × Bool)).lookup c = some k -> ∀ C, XC K c C -> XCls K C /\ W.kitOne K (.ref C) (.ref y_NoForm) = some k := lookup_all (P := fun c k => ∀ C, XC K c C -> XCls K C /\ W.kitOne K (.ref C) (.ref y_NoForm) = some k) (by
  intro p hp
  simp only [mem_cons, not_mem_nil, or_false] at hp
  rcases hp with rfl
  ·intro C h; rw [h.eq e_NoPlace]; exact ⟨xcls_of w_NoPlace, i_NoPlace_NoForm⟩
  )
 have hi_NoNumber : ∀ c k, ([("NoPlace", false)] : List (Str × Bool)).lookup c = some k -> ∀ C, XC K c C -> XCls K C /\ W.kitOne K (.ref C) (.ref y_NoNumber) = some k := lookup_all (P := fun c k => ∀ C, XC K c C -> XCls K C /\ W.kitOne K (.ref C) (.ref y_NoNumber) = some k) (by
  intro p hp
  simp only [mem_cons, not_mem_nil, or_false] at hp
  rcases hp with rfl
  ·intro C h; rw [h.eq e_NoPlace]; exact ⟨xcls_of w_NoPlace, i_NoPlace_NoNumber⟩
  )
 have hi_NoPlace : ∀ c k, ([("NoPlace", true)] : List (Str × Bool)).lookup c = some k -> ∀ C, XC K c C -> XCls K C /\ W.kitOne K (.ref C) (.ref y_NoPlace) = some k := lookup_all (P := fun c k => ∀ C, XC K c C -> XCls K C /\ W.kitOne K (.ref C) (.ref y_NoPlace) = some k) (by
  intro p hp
  simp only [mem_cons, not_mem_nil, or_false] at hp
  rcases hp with rfl
  ·intro C h; rw [h.eq e_NoPlace]; exact ⟨xcls_of w_NoPlace, i_NoPlace_NoPlace⟩
  )
 have hi_NoStep : ∀ c k, ([("NoPlace", false)] : List (Str × Bool)).lookup c = some k -> ∀ C, XC K c C -> XCls K C /\ W.kitOne K (.ref C) (.ref y_NoStep) = some k := lookup_all (P := fun c k => ∀ C, XC K c C -> XCls K C /\ W.kitOne K (.ref C) (.ref y_NoStep) = some k) (by
  intro p hp
  simp only [mem_cons, not_mem_nil, or_false] at hp
  rcases hp with rfl
  ·intro C h; rw [h.eq e_NoPlace]; exact ⟨xcls_of w_NoPlace, i_NoPlace_NoStep⟩
  )
 have hi_NoText : ∀ c k, ([("NoPlace", false)] : List (Str × Bool)).lookup c = some k -> ∀ C, XC K c C -> XCls K C /\ W.kitOne K (.ref C) (.ref y_NoText) = some k := lookup_all (P := fun c k => ∀ C, XC K c C -> XCls K C /\ W.kitOne K (.ref C) (.ref y_NoText) = some k) (by
  intro p hp
  simp only [mem_cons, not_mem_nil, or_false] at hp
  rcases hp with rfl
  ·intro C h; rw [h.eq e_NoPlace]; exact ⟨xcls_of w_NoPlace, i_NoPlace_NoText⟩
  )
 have hi_NoWeights : ∀ c k, ([("NoPlace", false)] : List (Str × Bool)).lookup c = some k -> ∀ C, XC K c C -> XCls K C /\ W.kitOne K (.ref C) (.ref y_NoWeights) = some k := lookup_all (P := fun c k => ∀ C, XC K c C -> XCls K C /\ W.kitOne K (.ref C) (.ref y_NoWeights) = some k) (by
  intro p hp
  simp only [mem_cons, not_mem_nil, or_false] at hp
  rcases hp with rfl
  ·intro C h; rw [h.eq e_NoPlace]; exact ⟨xcls_of w_NoPlace, i_NoPlace_NoWeights⟩
  )
 have hi_NoneYet : ∀ c k, ([("NoPlace", false)] : List (Str × Bool)).lookup c = some k -> ∀ C, XC K c C -> XCls K C /\ W.kitOne K (.ref C) (.ref y_NoneYet) = some k := lookup_all (P := fun c k => ∀ C, XC K c C -> XCls K C /\ W.kitOne K (.ref C) (.ref y_NoneYet) = some k) (by
  intro p hp
  simp only [mem_cons, not_mem_nil, or_false] at hp
  rcases hp with rfl
  ·intro C h; rw [h.eq e_NoPlace]; exact ⟨xcls_of w_NoPlace, i_NoPlace_NoneYet⟩
  )
 have hb_ValueError : ∀ c k, ([("NoPlace", true)] : List (Str × Bool)).lookup c = some k -> ∀ C, XC K c C -> XCls K C /\ W.kitOne K (.ref C) (.type "ValueError") = some k := lookup_all (P := fun c k => ∀ C, XC K c C -> XCls K C /\ W.kitOne K (.ref C) (.type "ValueError") = some k) (by
  intro p hp
  simp only [mem_cons, not_mem_nil, or_false] at hp
  rcases hp with rfl
  ·intro C h; rw [h.eq e_NoPlace]; exact ⟨xcls_of w_NoPlace, j_NoPlace_ValueError⟩
  )
 refine ⟨W.fnOf "law" "law" (defArgs s_Z12) (defBody s_Z12) (defScope s_Z12) .none kV_Z12 dc_Z12 pm_Z12 o2_Z12 cd_Z12 ct_Z12, fun s v => .of_eq rfl, fun base _ _ => ?_⟩
 have G_Z4 := ok_Z4 (P := l.prog) (w := w) (mg := mg) (base := base) F_Z4         z_len
 have G_Z7 := ok_Z7 (P := l.prog) (w := w) (mg := mg) (base := base) F_Z7         z_max z_min z_zip
 have G_Z1 := ok_Z1 (P := l.prog) (w := w) (mg := mg) (base := base) F_Z1  G_Z4 b_Z4 k_Z4 a_Z4 G_Z7 b_Z7 k_Z7 a_Z7    a_NoPlace xc_NoPlace q_NoPlace
 have GX_Z1 := okx_Z1 (P := l.prog) (w := w) (mg := mg) (base := base) F_Z1  G_Z4 b_Z4 k_Z4 a_Z4 G_Z7 b_Z7 k_Z7 a_Z7    a_NoPlace xc_NoPlace q_NoPlace
 have G_Z8 := ok_Z8 (P := l.prog) (w := w) (mg := mg) (base := base) F_Z8
 have G_Z5 := ok_Z5 (P := l.prog) (w := w) (mg := mg) (base := base) F_Z5         z_len z_max z_min
 have G_Z11 := ok_Z11 (P := l.prog) (w := w) (mg := mg) (base := base) F_Z11  G_Z8 b_Z8 k_Z8 a_Z8       z_min z_range
 have G_Z6 := ok_Z6 (P := l.prog) (w := w) (mg := mg) (base := base) F_Z6      a_NoForm a_NoNumber a_NoPlace a_NoStep a_NoText a_NoWeights a_NoneYet hi_NoForm hi_NoNumber hi_NoPlace hi_NoStep hi_NoText hi_NoWeights hi_NoneYet hb_ValueError   z_ValueError z_isinstance
 have G_Z10 := ok_Z10 (P := l.prog) (w := w) (mg := mg) (base := base) F_Z10  G_Z8 b_Z8 k_Z8 a_Z8
 have G_Z9 := ok_Z9 (P := l.prog) (w := w) (mg := mg) (base := base) F_Z9  G_Z8 b_Z8 k_Z8 a_Z8       z_range
 have G_Z2 := ok_Z2 (P := l.prog) (w := w) (mg := mg) (base := base) F_Z2  G_Z8 b_Z8 k_Z8 a_Z8       z_abs z_enumerate
 have G_Z0 := ok_Z0 (P := l.prog) (w := w) (mg := mg) (base := base) F_Z0  G_Z10 b_Z10 k_Z10 a_Z10 G_Z8 b_Z8 k_Z8 a_Z8       z_len z_list z_max
 have G_Z3 := ok_Z3 (P := l.prog) (w := w) (mg := mg) (base := base) F_Z3  G_Z6 b_Z6 k_Z6 a_Z6 G_Z1 b_Z1 k_Z1 a_Z1   GX_Z1 a_WaveError hcl_WaveError   z_list
 have G_Z12 := ok_Z12 (P := l.prog) (w := w) (mg := mg) (base := base) F_Z12  G_Z2 b_Z2 k_Z2 a_Z2 G_Z5 b_Z5 k_Z5 a_Z5 G_Z0 b_Z0 k_Z0 a_Z0 G_Z3 b_Z3 k_Z3 a_Z3 G_Z11 b_Z11 k_Z11 a_Z11 G_Z9 b_Z9 k_Z9 a_Z9       z_int z_len z_range z_set z_sorted
 exact G_Z12
theorem walk {l : W.OpenLaw} {q : Program} {loose : List Str} {XP : (Str -> Option Value) -> Heap -> Prop} {YP : World -> Heap -> Prop} {d : DefRec} {K : Params -> W.Frag} (hn : l.most = some 63) (hdf : d.params.defaults = [])
  (law : ∀ ns : List Int, ns.length <= 63 -> m_Z12 [.lst (ns.map .int)] = some (.sh (.bl true)))
  (hY : ∀ (w : World) (h : Heap), YP w h -> (K w.params).In h)
  (F : ∀ (w : World) (mg : Str -> Option Value) (fa : Addr) (h : Heap), (K w.params).In h -> h.Ns mainGlobals mg -> mg d.name = some (.ref fa) ->
   ∃ fd : FuncData, (∀ (s : Shared) (u : Value), BindsTo s fd ⟨[u], []⟩ [("script", u)]) /\ ∀ base : Heap, (K w.params).In base -> base.Ns mainGlobals mg -> FnOk l.prog w (K w.params) mg base CX0 4 fa fd ["script"] (spR (K w.params) 1 m_Z12)) :
  W.WalkO q loose XP YP l.row.toRowW d [] (fun f vs => PySem.call f vs) :=
 L2.walk_of (n := 63) (k := 4) (x := "script") (CX := fun _ => CX0) (sp := fun w => spR (K w.params) 1 m_Z12) hn (by decide) hdf ⟨rfl, by decide, by decide⟩ hY F (fun w H a ns hl _ hS => sp_Z12 law H a ns hl hS _) fun _ _ _ _ _ z => z
end
end Lw
open PySem PySem.W PyProof.Rows
set_option maxRecDepth 100000 in
set_option maxHeartbeats 0 in
theorem PySem.Challenge.cw_wavyrow_k05_no_places_holds : PySem.Challenge.rw_wavyrow_k05_no_places.Holds := by
 w_on; o_law; k_head; (case hw => w_witness2)
 k_fill
 refine Lw.walk (l := PySem.Challenge.rw_wavyrow_k05_no_places) rfl rfl Lw.law_true (fun w h Y => PySem.W.kIn_of Y) ?F
 case F =>
  intro w mg fa h KX G hmg
  refine' Lw.all_mk KX G hmg  ?e_Z4 ?l_Z4 ?c_Z4 ?k_Z4 ?e_Z7 ?l_Z7 ?c_Z7 ?k_Z7 ?e_Z1 ?l_Z1 ?c_Z1 ?k_Z1 ?e_Z8 ?l_Z8 ?c_Z8 ?k_Z8 ?e_Z5 ?l_Z5 ?c_Z5 ?k_Z5 ?e_Z11 ?l_Z11 ?c_Z11 ?k_Z11 ?e_Z6 ?l_Z6 ?c_Z6 ?k_Z6 ?e_Z10 ?l_Z10 ?c_Z10 ?k_Z10 ?e_Z9 ?l_Z9 ?c_Z9 ?k_Z9 ?e_Z2 ?l_Z2 ?c_Z2 ?k_Z2 ?e_Z0 ?l_Z0 ?c_Z0 ?k_Z0 ?e_Z3 ?l_Z3 ?c_Z3 ?k_Z3 ?e_Z12 ?l_Z12 ?c_Z12 ?k_Z12   ?e_NoForm ?e_NoNumber ?e_NoPlace ?e_NoStep ?e_NoText ?e_NoWeights ?e_NoneYet ?e_WaveError ?n_NoPlace ?q_NoPlace ?w_NoPlace ?m_NoPlace_WaveError ?i_NoPlace_NoForm ?i_NoPlace_NoNumber ?i_NoPlace_NoPlace ?i_NoPlace_NoStep ?i_NoPlace_NoText ?i_NoPlace_NoWeights ?i_NoPlace_NoneYet ?j_NoPlace_ValueError ?y_ValueError ?y_abs ?y_enumerate ?y_int ?y_isinstance ?y_len ?y_list ?y_max ?y_min ?y_range ?y_set ?y_sorted ?y_zip
  (case e_Z4 => k_is); (case l_Z4 => k_is); (case c_Z4 => k_is); (case k_Z4 => k_is)
  (case e_Z7 => k_is); (case l_Z7 => k_is); (case c_Z7 => k_is); (case k_Z7 => k_is)
  (case e_Z1 => k_is); (case l_Z1 => k_is); (case c_Z1 => k_is); (case k_Z1 => k_is)
  (case e_Z8 => k_is); (case l_Z8 => k_is); (case c_Z8 => k_is); (case k_Z8 => k_is)
  (case e_Z5 => k_is); (case l_Z5 => k_is); (case c_Z5 => k_is); (case k_Z5 => k_is)
  (case e_Z11 => k_is); (case l_Z11 => k_is); (case c_Z11 => k_is); (case k_Z11 => k_is)
  (case e_Z6 => k_is); (case l_Z6 => k_is); (case c_Z6 => k_is); (case k_Z6 => k_is)
  (case e_Z10 => k_is); (case l_Z10 => k_is); (case c_Z10 => k_is); (case k_Z10 => k_is)
  (case e_Z9 => k_is); (case l_Z9 => k_is); (case c_Z9 => k_is); (case k_Z9 => k_is)
  (case e_Z2 => k_is); (case l_Z2 => k_is); (case c_Z2 => k_is); (case k_Z2 => k_is)
  (case e_Z0 => k_is); (case l_Z0 => k_is); (case c_Z0 => k_is); (case k_Z0 => k_is)
  (case e_Z3 => k_is); (case l_Z3 => k_is); (case c_Z3 => k_is); (case k_Z3 => k_is)
  (case e_Z12 => k_is); (case l_Z12 => k_is); (case c_Z12 => k_is); (case k_Z12 => k_is)
  (case e_NoForm => first | k_is | rfl | k_exc | (unfold L2.bmV; k_exc))
  (case e_NoNumber => first | k_is | rfl | k_exc | (unfold L2.bmV; k_exc))
  (case e_NoPlace => first | k_is | rfl | k_exc | (unfold L2.bmV; k_exc))
  (case e_NoStep => first | k_is | rfl | k_exc | (unfold L2.bmV; k_exc))
  (case e_NoText => first | k_is | rfl | k_exc | (unfold L2.bmV; k_exc))
  (case e_NoWeights => first | k_is | rfl | k_exc | (unfold L2.bmV; k_exc))
  (case e_NoneYet => first | k_is | rfl | k_exc | (unfold L2.bmV; k_exc))
  (case e_WaveError => first | k_is | rfl | k_exc | (unfold L2.bmV; k_exc))
  (case n_NoPlace => first | k_is | rfl | k_exc | (unfold L2.bmV; k_exc))
  (case q_NoPlace => first | k_is | rfl | k_exc | (unfold L2.bmV; k_exc))
  (case w_NoPlace => first | k_is | rfl | k_exc | (unfold L2.bmV; k_exc))
  (case m_NoPlace_WaveError => first | k_is | rfl | k_exc | (unfold L2.bmV; k_exc))
  (case i_NoPlace_NoForm => first | k_is | rfl | k_exc | (unfold L2.bmV; k_exc))
  (case i_NoPlace_NoNumber => first | k_is | rfl | k_exc | (unfold L2.bmV; k_exc))
  (case i_NoPlace_NoPlace => first | k_is | rfl | k_exc | (unfold L2.bmV; k_exc))
  (case i_NoPlace_NoStep => first | k_is | rfl | k_exc | (unfold L2.bmV; k_exc))
  (case i_NoPlace_NoText => first | k_is | rfl | k_exc | (unfold L2.bmV; k_exc))
  (case i_NoPlace_NoWeights => first | k_is | rfl | k_exc | (unfold L2.bmV; k_exc))
  (case i_NoPlace_NoneYet => first | k_is | rfl | k_exc | (unfold L2.bmV; k_exc))
  (case j_NoPlace_ValueError => first | k_is | rfl | k_exc | (unfold L2.bmV; k_exc))
  (case y_ValueError => k_is)
  (case y_abs => k_is)
  (case y_enumerate => k_is)
  (case y_int => k_is)
  (case y_isinstance => k_is)
  (case y_len => k_is)
  (case y_list => k_is)
  (case y_max => k_is)
  (case y_min => k_is)
  (case y_range => k_is)
  (case y_set => k_is)
  (case y_sorted => k_is)
  (case y_zip => k_is)
