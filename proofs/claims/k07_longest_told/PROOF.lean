import PyProof.Rows.All
import Wide.All
import OpenK.AllK
import Wide.FinOn
import Lean
import PyProof.EqAt
import PyProof.EqKinds
import PyProof.TupleCall
import PyProof.NeKinds
import PySem.Challenge.RW_wavyrow_k07_longest_told
set_option Elab.async false
set_option linter.all false
set_option maxRecDepth 100000
namespace L2
open PySem PySem.Spec PyProof.Rows

abbrev Key := Sum Int Str
def keyIs : Key → Value → Bool
  | .inl k, v => Value.isInt k v
  | .inr x, v => Value.isStrOf x v
def keyH (w : World) : Key → Int
  | .inl k => hashInt k
  | .inr x => hashStr w x
theorem keyIs_shape : ∀ {k : Key} {v : Value}, keyIs k v = true → (∃ i t, k = Sum.inl i ∧ v = Value.int i t) ∨ (∃ x t, k = Sum.inr x ∧ v = Value.str x t)
  | .inl i, v, h => by
    obtain ⟨t, e⟩ := Value.isInt_shape (k := i) (v := v) h
    exact .inl ⟨i, t, rfl, e⟩
  | .inr x, v, h => by
    obtain ⟨t, e⟩ := Value.isStrOf_shape (x := x) (v := v) h
    exact .inr ⟨x, t, rfl, e⟩
theorem keyIs_str (x : Str) (t : Tok) : keyIs (.inr x) (.str x t) = true := by simp [keyIs, Value.isStrOf]
theorem key_ll (a b : Int) : decide ((Sum.inl a : Key) = Sum.inl b) = (a == b) := by
  by_cases e : a = b
  · subst e; simp
  · have h : ¬ (Sum.inl a : Key) = Sum.inl b := fun q => e (Sum.inl.inj q)
    rw [decide_eq_false h]
    exact (beq_eq_false_iff_ne.mpr e).symm
theorem key_rr (a b : Str) : decide ((Sum.inr a : Key) = Sum.inr b) = decide (a = b) := by
  by_cases e : a = b
  · subst e; simp
  · have h : ¬ (Sum.inr a : Key) = Sum.inr b := fun q => e (Sum.inr.inj q)
    rw [decide_eq_false h, decide_eq_false e]
theorem key_lr (a : Int) (b : Str) : decide ((Sum.inl a : Key) = Sum.inr b) = false := decide_eq_false (fun q => nomatch q)
theorem key_rl (a : Str) (b : Int) : decide ((Sum.inr a : Key) = Sum.inl b) = false := decide_eq_false (fun q => nomatch q)

def mixKind (prog : Program) (w : World) : PySem.KeyKind prog w Key where
  is := keyIs
  hash := keyH w
  inj := fun v a b ha hb => by
    rcases keyIs_shape ha with ⟨i, t, rfl, rfl⟩ | ⟨x, t, rfl, rfl⟩
    · rcases keyIs_shape hb with ⟨j, u, rfl, e⟩ | ⟨y, u, rfl, e⟩
      · injection e with e1 _; rw [e1]
      · exact nomatch e
    · rcases keyIs_shape hb with ⟨j, u, rfl, e⟩ | ⟨y, u, rfl, e⟩
      · exact nomatch e
      · injection e with e1 _; rw [e1]
  byValue := fun k v h => by
    rcases keyIs_shape h with ⟨i, t, rfl, rfl⟩ | ⟨x, t, rfl, rfl⟩ <;> rfl
  pyHash := fun hv h => by
    rcases keyIs_shape hv with ⟨i, t, rfl, rfl⟩ | ⟨x, t, rfl, rfl⟩
    · exact wpAny_pyHash_int h
    · exact wpAny_pyHash_str h
  eqBool := fun hu hv h => by
    rcases keyIs_shape hu with ⟨i, t, rfl, rfl⟩ | ⟨x, t, rfl, rfl⟩
    · rcases keyIs_shape hv with ⟨j, u, rfl, rfl⟩ | ⟨y, u, rfl, rfl⟩
      · rw [key_ll] at h; exact wpAny_eqBool_int h
      · rw [key_lr] at h; exact SeqAt.EqAt.int_str i t y u _ _ _ _ h
    · rcases keyIs_shape hv with ⟨j, u, rfl, rfl⟩ | ⟨y, u, rfl, rfl⟩
      · rw [key_rl] at h; exact SeqAt.EqAt.str_int x t j u _ _ _ _ h
      · rw [key_rr] at h; exact wpAny_eqBool_str h
  «strs» := fun k x t v h => by
    rcases keyIs_shape h with ⟨i, u, rfl, e⟩ | ⟨y, u, rfl, e⟩
    · exact nomatch e
    · injection e with e1 _
      subst e1
      cases v <;> rfl

end L2

namespace L2
open PySem PySem.Spec PyProof.Rows

inductive V where
  | non | bl (b : Bool) | int (i : Int) | str (x : Str) | byt (b : Array UInt8) | flt (b : UInt64) | ref (a : Addr) | ty (n : String)
  deriving DecidableEq

def RelV : V → Value → Prop
  | .non, u => u = Value.none
  | .bl b, u => u = Value.bool b
  | .int i, u => ∃ t, u = Value.int i t
  | .str x, u => ∃ t, u = Value.str x t
  | .byt b, u => ∃ t, u = Value.bytes b t
  | .flt b, u => ∃ t, u = Value.float b t
  | .ref a, u => u = Value.ref a
  | .ty n, u => u = Value.type n

abbrev Vals : List V → List Value → Prop := Paired RelV
theorem Vals.length {xs : List V} {us : List Value} (r : Vals xs us) : xs.length = us.length := Paired.length r
theorem Vals.get : ∀ {xs : List V} {us : List Value} {i : Nat} {x : V}, Vals xs us → xs[i]? = some x → ∃ u, us[i]? = some u ∧ RelV x u
  | _, _, _, _, .nil, e => by simp at e
  | _, _, 0, _, .cons r _, e => by simp at e; subst e; exact ⟨_, rfl, r⟩
  | _, _, i + 1, x, .cons _ t, e => by
    obtain ⟨u, h1, h2⟩ := Vals.get (i := i) (x := x) t (by simpa using e)
    exact ⟨u, by simpa using h1, h2⟩
theorem Vals.set {x : V} {u : Value} (r : RelV x u) : ∀ {xs : List V} {us : List Value} (i : Nat), Vals xs us → Vals (xs.set i x) (us.set i u)
  | _, _, _, .nil => .nil
  | _, _, 0, .cons _ t => .cons r t
  | _, _, i + 1, .cons q t => .cons q (Vals.set r i t)
theorem Vals.append : ∀ {xs ys : List V} {us ws : List Value}, Vals xs us → Vals ys ws → Vals (xs ++ ys) (us ++ ws)
  | _, _, _, _, .nil, s => s
  | _, _, _, _, .cons r t, s => .cons r (Vals.append t s)
theorem Vals.take : ∀ {xs : List V} {us : List Value} (n : Nat), Vals xs us → Vals (xs.take n) (us.take n)
  | _, _, 0, _ => .nil
  | _, _, _ + 1, .nil => .nil
  | _, _, n + 1, .cons r t => .cons r (Vals.take n t)
theorem Vals.drop : ∀ {xs : List V} {us : List Value} (n : Nat), Vals xs us → Vals (xs.drop n) (us.drop n)
  | _, _, 0, r => r
  | _, _, _ + 1, .nil => .nil
  | _, _, n + 1, .cons _ t => Vals.drop n t
def RelO : Option V → Option Value → Prop
  | some v, some u => RelV v u
  | none, none => True
  | _, _ => False
def KV {κ : Type} : List (κ × V) → List (κ × Value) → Prop := Paired fun (p : κ × V) (q : κ × Value) => p.1 = q.1 ∧ RelV p.2 q.2

def kV : Key → V
  | .inl i => .int i
  | .inr x => .str x

inductive HO where
  | lst (xs : List V)
  | tup (xs : List V)
  | dK (kvs : List (Key × V)) | dT (kvs : List (List Key × V))
  | set (S : Int → Bool) (n : Nat)
  | ins (C dx : Addr) (fs : List (Str × V))
  | own (x : Addr)
  | xd (fs : List (Str × V))
  | met (f x : Addr)
  | rng (lo hi : Int)
  | frz (o : Obj) (u : HO)
  | tbl (ps : Array Value)
  | ext (φ : Heap → Prop)

abbrev Hp := Addr → Option HO
def upd (H : Hp) (a : Addr) (o : HO) : Hp := fun b => if b = a then some o else H b
theorem upd_same {H : Hp} {a : Addr} {o : HO} : upd H a o a = some o := by unfold upd; rw [if_pos rfl]
theorem upd_ne {H : Hp} {a b : Addr} {o : HO} (h : b ≠ a) : upd H a o b = H b := by unfold upd; rw [if_neg h]
theorem ne_of_none {H : Hp} {a b : Addr} {o : HO} (h : H a = some o) (h' : H b = none) : a ≠ b := by
  intro e; subst e; rw [h] at h'; cases h'

section
variable (P : Program) (w : World)
def ObjOk (H : Hp) (h : Heap) (a : Addr) : HO → Prop
  | .lst xs => xs.length ≤ sizeLine ∧ ∃ (its : List Value) (n : Nat), Vals xs its ∧ h.get? a = some { cls := .type "list", data := .seq its.toArray n }
  | .tup xs => xs.length ≤ sizeLine ∧ ∃ its : List Value, Vals xs its ∧ IsTup h a its.toArray
  | .dK kvs => kvs.length ≤ sizeLine ∧ (a == sysModules) = false ∧ ∃ vs, KV kvs vs ∧ h.DictOf (mixKind P w) a vs
  | .dT kvs => kvs.length ≤ sizeLine ∧ (a == sysModules) = false ∧ ∃ xs : List (List Key × Addr × Value),
      Paired (fun (p : List Key × V) (q : List Key × Addr × Value) => p.1 = q.1 ∧ H q.2.1 = some (.tup (p.1.map kV)) ∧ RelV p.2 q.2.2) kvs xs ∧
      ∃ o es ep, h.get? a = some o ∧ o.ExactDict ∧ o.data = .dict es ep ∧ es.toList = xs.map (entryOfKey (tupleKind (mixKind P w))) ∧ (xs.map (·.1)).Nodup
  | .set S n => h.SetOf (intKind P w) a S n
  | .ins C dx fs => H dx = some (.own a) ∧ fs.length ≤ 1000 ∧ dx ≠ a ∧ h.get? a = some (PySem.W.instObj C dx) ∧
      ∃ mA, h.Ns1 dx mA ∧ (∀ f, RelO (fs.lookup f) (mA f)) ∧ PySem.Within mA (fs.map (·.1))
  | .own _ => ∃ o, h.get? a = some o
  | .xd fs => ∃ mA, h.Ns1 a mA ∧ ∀ f, RelO (fs.lookup f) (mA f)
  | .rng lo hi => ∃ t u v, h.get? a = some { cls := .type "range", data := .fields #[.int lo t, .int hi u, .int 1 v] }
  | .frz o u => h.get? a = some o ∧ ObjOk H h a u
  | .tbl ps => h.get? a = some { cls := .none, data := .fields ps }
  | .met f x => h.get? a = some (PySem.W.methodObj (.ref f) (.ref x))
  | .ext φ => φ h ∧ (∃ o, h.get? a = some o) ∧ ∀ h1 h2 : Heap, φ h1 → (∀ o, h1.get? a = some o → h2.get? a = some o) → φ h2
def HOk (H : Hp) (h : Heap) : Prop := ∀ a o, H a = some o → ObjOk P w H h a o
end

section
variable {P : Program} {w : World} {H H' : Hp} {h h' : Heap} {a : Addr} {o : HO}
theorem ObjOk.lt (x : ObjOk P w H h a o) : a < h.objs.size := by
  cases o with
  | lst xs => obtain ⟨_, _, _, _, e⟩ := x; exact Heap.lt_size e
  | tup xs => obtain ⟨_, _, _, p⟩ := x; exact p.lt
  | dK kvs => obtain ⟨_, _, _, _, o, _, _, e, _⟩ := x; exact Heap.lt_size e
  | dT kvs => obtain ⟨_, _, _, _, o, _, _, e, _⟩ := x; exact Heap.lt_size e
  | set S n => obtain ⟨o, _, _, _, e, _⟩ := x; exact Heap.lt_size e
  | ins C dx fs => obtain ⟨_, _, _, e, _⟩ := x; exact Heap.lt_size e
  | own y => obtain ⟨_, e⟩ := x; exact Heap.lt_size e
  | xd fs => obtain ⟨_, ⟨_, _, _, e, _⟩, _⟩ := x; exact Heap.lt_size e
  | rng lo hi => obtain ⟨_, _, _, e⟩ := x; exact Heap.lt_size e
  | frz ob u => obtain ⟨e, _⟩ := x; exact Heap.lt_size e
  | tbl ps => exact Heap.lt_size (show h.get? a = some _ from x)
  | met f y => exact Heap.lt_size (show h.get? a = some _ from x)
  | ext φ => obtain ⟨_, ⟨_, e⟩, _⟩ := x; exact Heap.lt_size e
theorem Paired.mapP {α β : Type} {F G : α → β → Prop} : ∀ {l₁ : List α} {l₂ : List β}, Paired F l₁ l₂ → (∀ a b, F a b → G a b) → Paired G l₁ l₂
  | _, _, .nil, _ => .nil
  | _, _, .cons r t, f => .cons (f _ _ r) (Paired.mapP t f)
theorem ObjOk.stay (x : ObjOk P w H h a o) (k : ∀ b u, (b = a ∨ H b = some (.own a)) → h.get? b = some u → h'.get? b = some u)
    (ho : ∀ b, H b = some (.own a) → H' b = some (.own a)) (ht : ∀ b xs, H b = some (.tup xs) → H' b = some (.tup xs)) : ObjOk P w H' h' a o := by
  induction o with
  | lst xs => obtain ⟨z, its, n, r, e⟩ := x; exact ⟨z, its, n, r, k _ _ (.inl rfl) e⟩
  | tup xs => obtain ⟨z, its, r, ob, e, c⟩ := x; exact ⟨z, its, r, ob, k _ _ (.inl rfl) e, c⟩
  | dK kvs => obtain ⟨z, y, vs, r, ob, es, ep, e, c⟩ := x; exact ⟨z, y, vs, r, ob, es, ep, k _ _ (.inl rfl) e, c⟩
  | dT kvs =>
    obtain ⟨z, y, xs, r, ob, es, ep, e, c⟩ := x
    exact ⟨z, y, xs, Paired.mapP r fun p q z => ⟨z.1, ht _ _ z.2.1, z.2.2⟩, ob, es, ep, k _ _ (.inl rfl) e, c⟩
  | set S n => obtain ⟨ob, es, ep, t, e, c⟩ := x; exact ⟨ob, es, ep, t, k _ _ (.inl rfl) e, c⟩
  | ins C dx fs =>
    obtain ⟨d, z, ne, e, mA, ⟨od, es, ep, e2, c⟩, r⟩ := x
    exact ⟨ho _ d, z, ne, k _ _ (.inl rfl) e, mA, ⟨od, es, ep, k _ _ (.inr d) e2, c⟩, r⟩
  | own y => obtain ⟨ob, e⟩ := x; exact ⟨ob, k _ _ (.inl rfl) e⟩
  | xd fs => obtain ⟨mA, ⟨od, es, ep, e, c⟩, r⟩ := x; exact ⟨mA, ⟨od, es, ep, k _ _ (.inl rfl) e, c⟩, r⟩
  | rng lo hi => obtain ⟨t, u, v, e⟩ := x; exact ⟨t, u, v, k _ _ (.inl rfl) e⟩
  | frz ob u ih => obtain ⟨e, q⟩ := x; exact ⟨k _ _ (.inl rfl) e, ih q⟩
  | tbl ps =>
    have e : h.get? a = some { cls := .none, data := .fields ps } := x
    show h'.get? a = some { cls := .none, data := .fields ps }
    exact k a _ (.inl rfl) e
  | met f y =>
    have e : h.get? a = some (PySem.W.methodObj (.ref f) (.ref y)) := x
    show h'.get? a = some (PySem.W.methodObj (.ref f) (.ref y))
    exact k a _ (.inl rfl) e
  | ext φ => obtain ⟨p, ⟨o, e⟩, st⟩ := x; exact ⟨st _ _ p fun o q => k _ _ (.inl rfl) q, ⟨o, k _ _ (.inl rfl) e⟩, st⟩
theorem HOk.lt (x : HOk P w H h) (e : H a = some o) : a < h.objs.size := (x a o e).lt
theorem HOk.fresh (x : HOk P w H h) (e : h.objs.size ≤ a) : H a = none := by
  cases q : H a with
  | none => rfl
  | some u => exact absurd (Nat.lt_of_lt_of_le (x.lt q) e) (Nat.lt_irrefl _)
theorem HOk.kept (x : HOk P w H h) (k : ∀ b u, h.get? b = some u → h'.get? b = some u) : HOk P w H h' := fun a o e =>
  (x a o e).stay (fun b u _ q => k b u q) (fun _ q => q) fun _ _ q => q
theorem HOk.laid (x : HOk P w H h) (k : ∀ b u, h.get? b = some u → h'.get? b = some u) (hp : h.objs.size ≤ a) (new : ObjOk P w (upd H a o) h' a o) : HOk P w (upd H a o) h' := fun b u e => by
  have hn := x.fresh hp
  by_cases hb : b = a
  · subst hb; rw [upd_same] at e; cases e; exact new
  · rw [upd_ne hb] at e
    exact (x b u e).stay (fun c v _ q => k c v q) (fun c q => by rw [upd_ne (ne_of_none q hn)]; exact q) fun c xs q => by rw [upd_ne (ne_of_none q hn)]; exact q
end

def Rd (H : Hp) (a : Addr) (u : HO) : Prop := H a = some u ∨ ∃ o, H a = some (.frz o u)
theorem Rd.of {H : Hp} {a : Addr} {u : HO} (h : H a = some u) : Rd H a u := .inl h
theorem Rd.ok {P : Program} {w : World} {H : Hp} {h : Heap} {a : Addr} {u : HO} (r : Rd H a u) (x : HOk P w H h) : ObjOk P w H h a u := by
  rcases r with r | ⟨o, r⟩
  · exact x a u r
  · obtain ⟨_, q⟩ := x a _ r
    exact q
def Mut : Option HO → Prop
  | some (.lst _) => True
  | some (.dK _) => True
  | some (.dT _) => True
  | some (.set _ _) => True
  | some (.ins _ _ _) => True
  | some (.ext _) => True
  | _ => False
section
variable {P : Program} {w : World} {H : Hp} {h h' : Heap} {x e : Addr} {o' : HO}
theorem HOk.write (ok : HOk P w H h) (mu : Mut (H x)) (he : e = x ∨ H e = some (.own x)) (k : ∀ b u, b ≠ e → h.get? b = some u → h'.get? b = some u) (heo : ∃ u, h'.get? e = some u)
    (new : ObjOk P w (upd H x o') h' x o') : HOk P w (upd H x o') h' := fun b u q => by
  have nown : ∀ c y, H c = some (.own y) → c ≠ x := fun c y r z => by subst z; rw [r] at mu; exact mu
  have ntup : ∀ c xs, H c = some (.tup xs) → c ≠ x := fun c xs r z => by subst z; rw [r] at mu; exact mu
  by_cases hb : b = x
  · subst hb; rw [upd_same] at q; cases q; exact new
  · rw [upd_ne hb] at q
    by_cases hbe : b = e
    · have q' : H b = some (.own x) := by
        rcases he with z | z
        · exact absurd (hbe.trans z) hb
        · rw [hbe]; exact z
      rw [q] at q'; cases q'
      obtain ⟨v, hv⟩ := heo
      exact ⟨v, by rw [hbe]; exact hv⟩
    · refine (ok b u q).stay (fun c v hc r => k c v ?_ r) (fun c r => by rw [upd_ne (nown c b r)]; exact r) fun c xs r => by rw [upd_ne (ntup c xs r)]; exact r
      rcases hc with rfl | hc
      · exact hbe
      · rintro rfl
        rcases he with z | z
        · exact nown c b hc z
        · rw [hc] at z; cases z; exact hb rfl
end

structure Un (fs ex : List Addr) (H H' : Hp) (h h' : Heap) : Prop where
  keep : ∀ b o, h.get? b = some o → H b = none → b ∉ fs → b ∉ ex → h'.get? b = some o
  slot : ∀ b o, h.get? b = some o → H b = none → b ∈ fs → b ∉ ex → ∃ sl, h'.get? b = some { o with slots := sl }
  free : ∀ b o, h.get? b = some o → H b = none → b ∉ ex → H' b = none
  there : ∀ b o, h.get? b = some o → b ∉ ex → ∃ o', h'.get? b = some o'
  tups : ∀ b xs, H b = some (.tup xs) → H' b = some (.tup xs)
  frzs : ∀ b o u, H b = some (.frz o u) → H' b = some (.frz o u)
  tbls : ∀ b ps, H b = some (.tbl ps) → ∃ more, H' b = some (.tbl (ps ++ more))
section
variable {fs fs' ex ex' : List Addr} {H H1 H2 : Hp} {h h1 h2 h' : Heap} {a x e : Addr} {o : HO}
theorem Un.any (u : Un fs ex H H1 h h1) {b : Addr} {ob : Obj} (q : h.get? b = some ob) (n : H b = none) (hx : b ∉ ex) : ∃ sl, h1.get? b = some { ob with slots := sl } := by
  by_cases hb : b ∈ fs
  · exact u.slot b ob q n hb hx
  · exact ⟨ob.slots, u.keep b ob q n hb hx⟩
theorem Un.trans (a : Un fs ex H H1 h h1) (b : Un fs ex H1 H2 h1 h2) : Un fs ex H H2 h h2 where
  keep := fun c ob q n hc hx => b.keep c ob (a.keep c ob q n hc hx) (a.free c ob q n hx) hc hx
  slot := fun c ob q n hc hx => by
    obtain ⟨sl, e1⟩ := a.slot c ob q n hc hx
    obtain ⟨sl', e2⟩ := b.slot c _ e1 (a.free c ob q n hx) hc hx
    exact ⟨sl', e2⟩
  free := fun c ob q n hx => by
    obtain ⟨o', e1⟩ := a.there c ob q hx
    exact b.free c o' e1 (a.free c ob q n hx) hx
  there := fun c ob q hx => by
    obtain ⟨o', e1⟩ := a.there c ob q hx
    exact b.there c o' e1 hx
  tups := fun c xs q => b.tups c xs (a.tups c xs q)
  frzs := fun c ob xs q => b.frzs c ob xs (a.frzs c ob xs q)
  tbls := fun c ps q => by
    obtain ⟨m1, e1⟩ := a.tbls c ps q
    obtain ⟨m2, e2⟩ := b.tbls c _ e1
    exact ⟨m1 ++ m2, by rw [e2, Array.append_assoc]⟩
theorem Un.kept (k : ∀ b u, h.get? b = some u → h'.get? b = some u) : Un fs ex H H h h' :=
  ⟨fun b ob q _ _ _ => k b ob q, fun b ob q _ _ _ => ⟨ob.slots, k b ob q⟩, fun _ _ _ n _ => n, fun b ob q _ => ⟨ob, k b ob q⟩, fun _ _ q => q, fun _ _ _ q => q, fun _ ps q => ⟨#[], by rw [q]; simp⟩⟩
theorem Un.refl : Un fs ex H H h h := Un.kept fun _ _ q => q
theorem Un.laid (k : ∀ b u, h.get? b = some u → h'.get? b = some u) (hp : h.objs.size ≤ a) (hn : H a = none) : Un fs ex H (upd H a o) h h' where
  keep := fun b u q _ _ _ => k b u q
  slot := fun b u q _ _ _ => ⟨u.slots, k b u q⟩
  free := fun b u q n _ => by rw [upd_ne (Nat.ne_of_lt (Nat.lt_of_lt_of_le (Heap.lt_size q) hp))]; exact n
  there := fun b u q _ => ⟨u, k b u q⟩
  tups := fun b xs q => by rw [upd_ne (ne_of_none q hn)]; exact q
  frzs := fun b u xs q => by rw [upd_ne (ne_of_none q hn)]; exact q
  tbls := fun b ps q => ⟨#[], by rw [upd_ne (ne_of_none q hn), q]; simp⟩
theorem Un.write (mu : Mut (H x)) (he : e = x ∨ H e = some (.own x)) (k : ∀ b u, b ≠ e → h.get? b = some u → h'.get? b = some u) (heo : ∃ u, h'.get? e = some u) : Un fs ex H (upd H x o) h h' := by
  have hx : ∀ b, H b = none → b ≠ x := fun b n z => by subst z; rw [n] at mu; exact mu
  have hb : ∀ b, H b = none → b ≠ e := fun b n z => by
    subst z
    rcases he with r | r
    · exact hx b n r
    · rw [n] at r; cases r
  have hm : ∀ b u, H b = some u → ¬ Mut (some u) → b ≠ x := fun b u q nm z => by subst z; rw [q] at mu; exact nm mu
  refine ⟨fun b u q n _ _ => k b u (hb b n) q, fun b u q n _ _ => ⟨u.slots, k b u (hb b n) q⟩, fun b u q n _ => by rw [upd_ne (hx b n)]; exact n, fun b u q _ => ?_,
    fun b xs q => by rw [upd_ne (hm b _ q fun z => z)]; exact q, fun b u xs q => by rw [upd_ne (hm b _ q fun z => z)]; exact q, fun b ps q => ⟨#[], by rw [upd_ne (hm b _ q fun z => z), q]; simp⟩⟩
  by_cases hbe : b = e
  · subst hbe; exact heo
  · exact ⟨u, k b u hbe q⟩
theorem Un.mono (u : Un fs ex H H1 h h1) (hs : ∀ b ∈ fs, b ∈ fs') (hx : ∀ b ∈ ex, b ∈ ex') : Un fs' ex' H H1 h h1 :=
  ⟨fun b ob q n hb he => u.keep b ob q n (fun z => hb (hs b z)) fun z => he (hx b z), fun _ _ q n _ he => u.any q n fun z => he (hx _ z), fun b ob q n he => u.free b ob q n fun z => he (hx b z), fun b ob q he => u.there b ob q fun z => he (hx b z), u.tups, u.frzs, u.tbls⟩
end

def trk (h : Heap) (H : Hp) : List Addr := (List.range h.objs.size).filter fun a => (H a).isSome
def hidT (h : Heap) (H : Hp) : Heap := PySem.W.hideAll h (trk h H)
theorem hidT_size (h : Heap) (H : Hp) : (hidT h H).objs.size = h.objs.size := PySem.W.hideAll_size _ _
theorem hidT_get {h : Heap} {H : Hp} {b : Addr} {o : Obj} (e : h.get? b = some o) (n : H b = none) : (hidT h H).get? b = some o :=
  PySem.W.hideAll_get _ e fun hm => by
    have q : (H b).isSome = true := (List.mem_filter.mp hm).2
    rw [n] at q; simp at q
theorem of_hidT {h : Heap} {H : Hp} {b : Addr} {o : Obj} (e : (hidT h H).get? b = some o) : h.get? b = some o ∧ H b = none := by
  have e' : h.get? b = some o := PySem.W.of_hideAll (trk h H) e
  refine ⟨e', ?_⟩
  cases q : H b with
  | none => rfl
  | some x =>
    have hm : b ∈ trk h H := List.mem_filter.mpr ⟨List.mem_range.mpr (Heap.lt_size e'), by simp [q]⟩
    have z : (hidT h H).get? b = none := PySem.W.hideAll_none (trk h H) hm
    rw [z] at e; cases e

def allNews (g h : Heap) (L : Addr) : List (Addr × Obj) := (List.range h.objs.size).filterMap fun a => if a = L ∨ (g.get? a).isSome = true then none else (h.get? a).map fun o => (a, o)
def rest (g h : Heap) (L d : Addr) : List (Addr × Obj) := (allNews g h L).filter fun p => decide (p.1 ≠ d)
end L2

namespace L2
open PySem PySem.Spec PyProof.Rows

structure Mod (K : PySem.W.Frag) (mg : Str → Option Value) (base : Heap) : Prop where
  kin : K.In base
  glob : base.Ns mainGlobals mg
  blt : ∃ mb, base.Ns builtinsNs mb ∧ ∀ x : Str, x ≠ "__name__" → mb x = bootBuiltins x
  nolimit : base.NoLimit

structure Cx where
  prog : Program
  w : World
  K : PySem.W.Frag
  mg : Str → Option Value
  base : Heap
  A : Around
  N : List Str
  s₀ : Shared
  H₀ : Hp
  env : Env
  outer : List Env
  stack : List Env
  ex : List Addr
  fn : Str → Bool
  calm : Bool
  pn : List (Addr × Obj)
  xe : Value → Shared → Prop
def frs (l : List Env) : List Addr := l.filterMap (·.frame)
abbrev Cx.fs (X : Cx) : List Addr := frs X.outer

def Vis (sc : Scope) (x : Str) : Prop := sc.names.lookup x = some .local ∨ sc.names.lookup x = some .cell ∨ sc.names.lookup x = some .free
def Loc (sc : Scope) (x : Str) : Prop := sc.names.lookup x = some .local ∨ sc.names.lookup x = some .cell
def Look (env : Env) (h : Heap) (m : Str → Option Value) (x : Str) (u : Value) : Prop :=
  (env.kindOf x = some .local ∧ m x = some u) ∨ ((env.kindOf x = some .cell ∨ env.kindOf x = some .free) ∧ ∃ c, env.cells.lookup x = some c ∧ h.IsCell c (some u))

structure Cx.Ok (X : Cx) : Prop where
  mod : Mod X.K X.mg X.base
  kind : X.env.scope.kind = .function
  glob : X.env.globals = mainGlobals
  blt : X.env.builtins = builtinsNs
  above : X.s₀.heap.objs.size ≤ X.env.locals
  inj : ∀ x y c, X.env.cells.lookup x = some c → X.env.cells.lookup y = some c → x = y
  has : ∀ x, (X.env.kindOf x = some .cell ∨ X.env.kindOf x = some .free) → ∃ c, X.env.cells.lookup x = some c
  cab : ∀ x c, X.fn x = true → X.env.cells.lookup x = some c → X.s₀.heap.objs.size ≤ c
  hd : X.calm = true → X.A.handled = none
  frames : X.A.frames = some X.stack
  stk : X.stack = X.outer ∨ (X.stack = X.env :: X.outer ∧ X.env.frame = some X.env.locals)
  exf : ∀ b ∈ X.ex, b ≠ X.env.locals ∧ ∀ x c, X.env.cells.lookup x = some c → c ≠ b
  bs : ∀ b o, X.base.get? b = some o → X.s₀.heap.get? b = some o ∧ X.H₀ b = none
  bsz : X.base.objs.size ≤ X.s₀.heap.objs.size
  noex : ∀ b o, X.base.get? b = some o → b ∉ X.ex
  exfs : ∀ b ∈ X.ex, b ∉ X.fs
  funs : X.s₀.heap.FunFrames X.base X.outer
  frf : ∀ b ∈ X.fs, X.H₀ b = none

structure Inv (X : Cx) (pins : List (Addr × Obj)) (σ : List (Option V)) (H : Hp) (s : Shared) : Prop where
  ok : X.Ok
  os : s.os = X.s₀.os
  bare : AllBare s.gens
  base : Un X.fs X.ex X.H₀ H X.s₀.heap s.heap
  loc : ∃ m, s.heap.Ns X.env.locals m ∧ ∀ (i : Nat) (x : Str) (v : V), X.N[i]? = some x → σ[i]? = some (some v) → Vis X.env.scope x → ∃ u, RelV v u ∧ Look X.env s.heap m x u
  cell : ∀ x c, X.env.cells.lookup x = some c → ∃ v, s.heap.IsCell c v
  free : H X.env.locals = none
  freeC : ∀ x c, X.env.cells.lookup x = some c → H c = none
  pin : ∀ p ∈ X.pn ++ pins, s.heap.get? p.1 = some p.2 ∧ H p.1 = none ∧ p.1 ≠ X.env.locals ∧ p.1 ∉ X.fs ∧ ∀ v, p.2.data ≠ .cell v
  hok : HOk X.prog X.w H s.heap
  len : σ.length = X.N.length

section
variable {X : Cx} {pins : List (Addr × Obj)} {σ : List (Option V)} {H H' : Hp} {s : Shared} {h' : Heap}

theorem Cx.Ok.nofr (ok : X.Ok) {b : Addr} {o : Obj} (e : X.base.get? b = some o) : b ∉ X.fs := fun hb => by
  have := (ok.funs.mem hb).1
  rw [e] at this; cases this
theorem Inv.bs (I : Inv X pins σ H s) : ∀ b o, X.base.get? b = some o → s.heap.get? b = some o ∧ H b = none := fun b o e =>
  ⟨I.base.keep b o (I.ok.bs b o e).1 (I.ok.bs b o e).2 (I.ok.nofr e) (I.ok.noex b o e), I.base.free b o (I.ok.bs b o e).1 (I.ok.bs b o e).2 (I.ok.noex b o e)⟩
theorem Inv.bk (I : Inv X pins σ H s) : ∀ b o, X.base.get? b = some o → s.heap.get? b = some o := fun b o e => (I.bs b o e).1
theorem Inv.mod (I : Inv X pins σ H s) : Mod X.K X.mg X.base := I.ok.mod
theorem Inv.kIn (I : Inv X pins σ H s) : X.K.In s.heap := I.ok.mod.kin.keeps I.bk
theorem Inv.nolimit (I : Inv X pins σ H s) : s.heap.NoLimit := I.ok.mod.nolimit.keeps I.bk
theorem Inv.fr (I : Inv X pins σ H s) : ∃ m, Fr X.base X.env.locals s.heap m :=
  let ⟨m, hn, _⟩ := I.loc
  ⟨m, hn, I.bk, Nat.le_trans I.ok.bsz I.ok.above⟩
theorem Inv.lt (I : Inv X pins σ H s) : X.env.locals < s.heap.objs.size := let ⟨_, hn, _⟩ := I.loc; hn.lt
theorem Inv.sz (I : Inv X pins σ H s) : X.s₀.heap.objs.size ≤ s.heap.objs.size := Nat.le_trans I.ok.above (Nat.le_of_lt I.lt)
theorem Inv.nofs (I : Inv X pins σ H s) {a : Addr} (h : s.heap.objs.size ≤ a) : a ∉ X.fs := fun hb => by
  obtain ⟨_, o, ho, _⟩ := I.ok.funs.mem hb
  exact absurd (Nat.lt_of_lt_of_le (Heap.lt_size ho) (Nat.le_trans I.sz h)) (Nat.lt_irrefl _)
theorem Inv.cne (I : Inv X pins σ H s) : ∀ x c, X.env.cells.lookup x = some c → c ≠ X.env.locals := fun x c e z => by
  obtain ⟨v, o, ho, hd⟩ := I.cell x c e
  obtain ⟨m, ⟨o', es, ep, ho', hd', _⟩, _⟩ := I.loc
  rw [z, ho'] at ho; cases ho; rw [hd'] at hd; cases hd
theorem Inv.funs (I : Inv X pins σ H s) : s.heap.FunFrames X.base X.outer := by
  have all : ∀ (l : List Env), (∀ b ∈ frs l, b ∈ X.fs) → X.s₀.heap.FunFrames X.base l → s.heap.FunFrames X.base l := by
    intro l
    induction l with
    | nil => intro _ _; trivial
    | cons env r ih =>
      intro hs hl
      obtain ⟨hk, ⟨L, o, hf, hn, ho, hd⟩, hr⟩ := hl
      have hL : L ∈ X.fs := hs L (by unfold frs; rw [List.filterMap_cons, hf]; exact List.mem_cons_self)
      obtain ⟨sl, e⟩ := I.base.slot L o ho (I.ok.frf L hL) hL fun z => I.ok.exfs L z hL
      exact ⟨hk, ⟨L, _, hf, hn, e, hd⟩, ih (fun b hb => hs b (by unfold frs; rw [List.filterMap_cons, hf]; exact List.mem_cons_of_mem _ hb)) hr⟩
  exact all X.outer (fun _ hb => hb) I.ok.funs

theorem Inv.stack (I : Inv X pins σ H s) : s.heap.FunFrames X.base X.stack := by
  rcases I.ok.stk with e | ⟨e, hf⟩
  · rw [e]; exact I.funs
  · rw [e]
    obtain ⟨m, hn, _⟩ := I.loc
    refine .cons (by rw [I.ok.kind]; decide) hf hn ?_ I.funs
    exact Heap.get?_none_of_le (Nat.le_trans I.ok.bsz I.ok.above)
theorem Inv.stkSub (I : Inv X pins σ H s) : ∀ b ∈ frs X.stack, b ∈ X.env.locals :: X.fs := fun b hb => by
  rcases I.ok.stk with e | ⟨e, hf⟩
  · rw [e] at hb; exact List.mem_cons_of_mem _ hb
  · rw [e] at hb
    unfold frs at hb
    rw [List.filterMap_cons, hf] at hb
    exact hb
theorem Inv.stkFree (I : Inv X pins σ H s) : ∀ b ∈ frs X.stack, H b = none := fun b hb => by
  rcases List.mem_cons.mp (I.stkSub b hb) with e | hb
  · rw [e]; exact I.free
  · obtain ⟨_, o, ho, _⟩ := I.ok.funs.mem hb
    exact I.base.free b o ho (I.ok.frf b hb) fun z => I.ok.exfs b z hb

theorem Inv.step {g' : Array GenState} {t' : Nat} {d' : Drawn} {ch : List Addr} (I : Inv X pins σ H s)
    (hch : ∀ b ∈ ch, (b ∈ X.ex ∨ X.s₀.heap.objs.size ≤ b) ∧ b ≠ X.env.locals ∧ (∀ x c, X.env.cells.lookup x = some c → c ≠ b) ∧ ∀ p ∈ X.pn ++ pins, p.1 ≠ b)
    (keep : ∀ b o, b ≠ X.env.locals → b ∉ X.fs → b ∉ ch → s.heap.get? b = some o → H b = none → h'.get? b = some o)
    (slot : ∀ b o, b ≠ X.env.locals → b ∈ X.fs → b ∉ ch → s.heap.get? b = some o → H b = none → ∃ sl, h'.get? b = some { o with slots := sl }) (free : ∀ b o, b ∉ ch → s.heap.get? b = some o → H b = none → H' b = none)
    (there : ∀ b o, b ∉ ch → s.heap.get? b = some o → ∃ o', h'.get? b = some o')
    (tups : ∀ b xs, H b = some (.tup xs) → H' b = some (.tup xs)) (frzs : ∀ b o u, H b = some (.frz o u) → H' b = some (.frz o u)) (tbls : ∀ b ps, H b = some (.tbl ps) → ∃ more, H' b = some (.tbl (ps ++ more)))
    (ns : ∀ m, s.heap.Ns X.env.locals m → h'.Ns X.env.locals m) (hok : HOk X.prog X.w H' h') (hg : AllBare g') :
    Inv X pins σ H' { s with heap := h', gens := g', drawn := d', toks := t' } := by
  have neL : ∀ b o, X.s₀.heap.get? b = some o → b ≠ X.env.locals := fun b o e => Nat.ne_of_lt (Nat.lt_of_lt_of_le (Heap.lt_size e) I.ok.above)
  have neC : ∀ b o, X.s₀.heap.get? b = some o → b ∉ X.ex → b ∉ ch := fun b o e hx hb => by
    rcases (hch b hb).1 with z | z
    · exact hx z
    · exact absurd (Nat.lt_of_lt_of_le (Heap.lt_size e) z) (Nat.lt_irrefl _)
  have cellK : ∀ x c, X.env.cells.lookup x = some c → ∀ v, s.heap.IsCell c v → h'.IsCell c v := fun x c e v ⟨o, ho, hd⟩ => by
    have nch : c ∉ ch := fun z => (hch c z).2.2.1 x c e rfl
    by_cases hc : c ∈ X.fs
    · obtain ⟨sl, q⟩ := slot c o (I.cne x c e) hc nch ho (I.freeC x c e)
      exact ⟨_, q, hd⟩
    · exact ⟨o, keep c o (I.cne x c e) hc nch ho (I.freeC x c e), hd⟩
  refine ⟨I.ok, I.os, hg, ⟨fun b o e n hb hx => ?_, fun b o e n hb hx => ?_, fun b o e n hx => ?_, fun b o e hx => ?_, fun b xs e => tups b xs (I.base.tups b xs e), fun b o xs e => frzs b o xs (I.base.frzs b o xs e), fun b ps e => ?_⟩, ?_, fun x c e => ?_, ?_, fun x c e => ?_, fun p hp => ?_, hok, I.len⟩
  · exact keep b o (neL b o e) hb (neC b o e hx) (I.base.keep b o e n hb hx) (I.base.free b o e n hx)
  · obtain ⟨sl, e1⟩ := I.base.slot b o e n hb hx
    obtain ⟨sl', e2⟩ := slot b _ (neL b o e) hb (neC b o e hx) e1 (I.base.free b o e n hx)
    exact ⟨sl', e2⟩
  · obtain ⟨o', e1⟩ := I.base.there b o e hx
    exact free b o' (neC b o e hx) e1 (I.base.free b o e n hx)
  · obtain ⟨o', e1⟩ := I.base.there b o e hx
    exact there b o' (neC b o e hx) e1
  · obtain ⟨m1, e1⟩ := I.base.tbls b ps e
    obtain ⟨m2, e2⟩ := tbls b _ e1
    exact ⟨m1 ++ m2, by rw [e2, Array.append_assoc]⟩
  · obtain ⟨m, hn, hl⟩ := I.loc
    refine ⟨m, ns m hn, fun i x v e1 e2 e3 => ?_⟩
    obtain ⟨u, r, l⟩ := hl i x v e1 e2 e3
    refine ⟨u, r, ?_⟩
    rcases l with l | ⟨k, c, e, z⟩
    · exact .inl l
    · exact .inr ⟨k, c, e, cellK x c e _ z⟩
  · obtain ⟨v, z⟩ := I.cell x c e
    exact ⟨v, cellK x c e v z⟩
  · obtain ⟨m, ⟨o, _, _, ho, _⟩, _⟩ := I.loc
    exact free _ o (fun z => (hch _ z).2.1 rfl) ho I.free
  · obtain ⟨v, o, ho, hd⟩ := I.cell x c e
    exact free c o (fun z => (hch c z).2.2.1 x c e rfl) ho (I.freeC x c e)
  · obtain ⟨e, n, ne, nf, d⟩ := I.pin p hp
    have nch : p.1 ∉ ch := fun z => (hch p.1 z).2.2.2 p hp rfl
    exact ⟨keep p.1 p.2 ne nf nch e n, free p.1 p.2 nch e n, ne, nf, d⟩
theorem Inv.un {t' : Nat} (I : Inv X pins σ H s) (u : Un X.fs [] H H' s.heap h') (hok : HOk X.prog X.w H' h') : Inv X pins σ H' { s with heap := h', toks := t' } := by
  obtain ⟨m, ⟨o, es, ep, ho, r⟩, _⟩ := id I.loc
  obtain ⟨sl, hL⟩ := u.any ho I.free (by simp)
  exact I.step (g' := s.gens) (d' := s.drawn) (ch := []) (fun _ z => nomatch z) (fun b o _ hb _ e n => u.keep b o e n hb (by simp)) (fun b o _ hb _ e n => u.slot b o e n hb (by simp)) (fun b o _ e n => u.free b o e n (by simp)) (fun b o _ e => u.there b o e (by simp)) u.tups u.frzs u.tbls (fun m' hm => by
    obtain ⟨o', es', ep', ho', r'⟩ := hm
    rw [ho] at ho'; cases ho'
    exact ⟨_, es', ep', hL, r'⟩) hok I.bare
theorem Inv.call {g' : Array GenState} {t' : Nat} {d' : Drawn} {ch : List Addr} (I : Inv X pins σ H s) (u : Un (frs X.stack) ch H H' s.heap h') (hok : HOk X.prog X.w H' h') (hg : AllBare g')
    (hch : ∀ b ∈ ch, (b ∈ X.ex ∨ X.s₀.heap.objs.size ≤ b) ∧ b ≠ X.env.locals ∧ (∀ x c, X.env.cells.lookup x = some c → c ≠ b) ∧ ∀ p ∈ X.pn ++ pins, p.1 ≠ b) :
    Inv X pins σ H' { s with heap := h', gens := g', drawn := d', toks := t' } := by
  obtain ⟨m, ⟨o, es, ep, ho, r⟩, _⟩ := id I.loc
  obtain ⟨sl, hL⟩ := u.any ho I.free fun z => (hch _ z).2.1 rfl
  exact I.step (ch := ch) hch (fun b o hL hb hc e n => u.keep b o e n (fun z => (List.mem_cons.mp (I.stkSub b z)).elim hL hb) hc) (fun b o _ _ hc e n => u.any e n hc) (fun b o hc e n => u.free b o e n hc) (fun b o hc e => u.there b o e hc) u.tups u.frzs u.tbls (fun m' hm => by
    obtain ⟨o', es', ep', ho', r'⟩ := hm
    rw [ho] at ho'; cases ho'
    exact ⟨_, es', ep', hL, r'⟩) hok hg
theorem Inv.turned {t' : Nat} {it : Addr} (I : Inv X pins σ H s) (k : ∀ b o, b ≠ it → s.heap.get? b = some o → h'.get? b = some o) (hn : H it = none) (hL : it ≠ X.env.locals)
    (h1 : it ∈ X.ex ∨ X.s₀.heap.objs.size ≤ it) (h2 : ∀ x c, X.env.cells.lookup x = some c → c ≠ it) (h3 : ∀ p ∈ X.pn ++ pins, p.1 ≠ it) : Inv X pins σ H { s with heap := h', toks := t' } := by
  have nit : ∀ b u, H b = some u → b ≠ it := fun b u e z => by rw [z, hn] at e; cases e
  refine I.step (g' := s.gens) (d' := s.drawn) (ch := [it]) (fun b hb => ?_) (fun b o _ _ hc e _ => k b o (fun z => hc (by simp [z])) e) (fun b o _ _ hc e _ => ⟨o.slots, k b o (fun z => hc (by simp [z])) e⟩) (fun _ _ _ _ n => n)
    (fun b o hc e => ⟨o, k b o (fun z => hc (by simp [z])) e⟩) (fun _ _ e => e) (fun _ _ _ e => e) (fun b ps e => ⟨#[], by rw [e]; simp⟩) (fun m hm => ?_) (fun b u e => ?_) I.bare
  · have e : b = it := by simpa using hb
    subst e
    exact ⟨h1, hL, h2, h3⟩
  · obtain ⟨o, es, ep, ho, r⟩ := hm
    exact ⟨o, es, ep, k _ o (Ne.symm hL) ho, r⟩
  · refine (I.hok b u e).stay (fun c v hc q => k c v ?_ q) (fun _ q => q) fun _ _ q => q
    rcases hc with z | z
    · rw [z]; exact nit b u e
    · exact nit c _ z
theorem Inv.tok (I : Inv X pins σ H s) (t : Nat) : Inv X pins σ H { s with toks := t } := I.un (h' := s.heap) (t' := t) Un.refl I.hok
theorem Inv.kept {t' : Nat} (I : Inv X pins σ H s) (k : ∀ b u, s.heap.get? b = some u → h'.get? b = some u) : Inv X pins σ H { s with heap := h', toks := t' } := I.un (Un.kept k) (I.hok.kept k)
theorem Inv.laid {a : Addr} {o : HO} {t' : Nat} (I : Inv X pins σ H s) (k : ∀ b u, s.heap.get? b = some u → h'.get? b = some u) (hp : s.heap.objs.size ≤ a) (new : ObjOk X.prog X.w (upd H a o) h' a o) :
    Inv X pins σ (upd H a o) { s with heap := h', toks := t' } := I.un (Un.laid k hp (I.hok.fresh hp)) (I.hok.laid k hp new)
theorem Inv.write {x e : Addr} {o : HO} {t' : Nat} (I : Inv X pins σ H s) (mu : Mut (H x)) (he : e = x ∨ H e = some (.own x)) (k : ∀ b u, b ≠ e → s.heap.get? b = some u → h'.get? b = some u) (heo : ∃ u, h'.get? e = some u)
    (new : ObjOk X.prog X.w (upd H x o) h' x o) : Inv X pins σ (upd H x o) { s with heap := h', toks := t' } := I.un (Un.write mu he k heo) (I.hok.write mu he k heo new)
theorem Inv.pins_of {pins' : List (Addr × Obj)} (I : Inv X pins σ H s) (h : ∀ p ∈ pins', s.heap.get? p.1 = some p.2 ∧ H p.1 = none ∧ p.1 ≠ X.env.locals ∧ p.1 ∉ X.fs ∧ ∀ v, p.2.data ≠ .cell v) : Inv X pins' σ H s :=
  ⟨I.ok, I.os, I.bare, I.base, I.loc, I.cell, I.free, I.freeC, fun p hp => (List.mem_append.mp hp).elim (fun z => I.pin p (List.mem_append_left _ z)) (h p), I.hok, I.len⟩

theorem nodup_ix {N : List Str} (hN : N.Nodup) {i j : Nat} {x : Str} (a : N[i]? = some x) (b : N[j]? = some x) : i = j := by
  obtain ⟨h1, e1⟩ := List.getElem?_eq_some_iff.mp a
  obtain ⟨h2, e2⟩ := List.getElem?_eq_some_iff.mp b
  exact (List.getElem_inj hN).mp (e1.trans e2.symm)

theorem store_ok2 {M : Model} {A : Around} {E : Value → Shared → Prop} {i : Nat} {x : Str} {v : V} {u : Value} {Q : Unit → Shared → Prop} (I : Inv X pins σ H s) (hN : X.N.Nodup) (hi : X.N[i]? = some x) (hx : Loc X.env.scope x) (r : RelV v u)
    (h : ∀ s', Inv X pins (σ.set i (some v)) H s' → (∃ a, Heap.SameBut a s.heap s'.heap ∧ (a = X.env.locals ∨ X.env.cells.lookup x = some a)) → Q () s') (hf : X.fn x = true ∨ X.env.scope.names.lookup x = some .local := by first | exact .inl rfl | exact .inr rfl | assumption) : wpAny M A (storeName X.env x u) Q E s := by
  obtain ⟨m, hn, hl⟩ := id I.loc
  have hcls : (X.env.scope.kind == .class || (X.env.scope.kind == .module && X.env.locals != X.env.globals)) = false := by rw [I.ok.kind]; rfl
  have hiσ : i < σ.length := by rw [I.len]; exact (List.getElem?_eq_some_iff.mp hi).1
  have cne := I.cne
  have tracked : ∀ {a : Addr} {h' : Heap}, (∃ o, s.heap.get? a = some o ∧ H a = none) → Heap.SameBut a s.heap h' → HOk X.prog X.w H h' := fun {a h'} ha hs b ob e => by
    obtain ⟨_, _, hfree⟩ := ha
    refine (I.hok b ob e).stay (fun c w' hc q => (hs.2 c ?_).trans q) (fun _ q => q) fun _ _ q => q
    rintro rfl
    rcases hc with rfl | hc
    · rw [hfree] at e; cases e
    · rw [hfree] at hc; cases hc
  rcases hx with hk | hk
  · refine wpAny_storeName_local hk hn (fun h' hn' hs => ?_) hcls
    obtain ⟨oL, _, _, hoL, _⟩ := id hn
    refine h _ ⟨I.ok, I.os, I.bare, ⟨fun b o e n hb hx => ?_, fun b o e n hb hx => ?_, I.base.free, fun b o e hx => ?_, I.base.tups, I.base.frzs, I.base.tbls⟩, ⟨_, hn', fun j y v' e1 e2 e3 => ?_⟩, fun y c e => ?_, I.free, I.freeC, fun p hp => ?_, tracked ⟨oL, hoL, I.free⟩ hs, by simpa using I.len⟩ ⟨_, hs, .inl rfl⟩
    · exact (hs.2 b (Nat.ne_of_lt (Nat.lt_of_lt_of_le (Heap.lt_size e) I.ok.above))).trans (I.base.keep b o e n hb hx)
    · obtain ⟨sl, e1⟩ := I.base.slot b o e n hb hx
      exact ⟨sl, (hs.2 b (Nat.ne_of_lt (Nat.lt_of_lt_of_le (Heap.lt_size e) I.ok.above))).trans e1⟩
    · obtain ⟨o', e1⟩ := I.base.there b o e hx
      exact ⟨o', (hs.2 b (Nat.ne_of_lt (Nat.lt_of_lt_of_le (Heap.lt_size e) I.ok.above))).trans e1⟩
    · by_cases hj : j = i
      · subst hj
        rw [hi] at e1; cases e1
        rw [List.getElem?_set_self hiσ] at e2
        cases e2
        exact ⟨u, r, .inl ⟨hk, by simp⟩⟩
      · rw [List.getElem?_set_ne (Ne.symm hj)] at e2
        obtain ⟨u', r', q⟩ := hl j y v' e1 e2 e3
        refine ⟨u', r', ?_⟩
        rcases q with ⟨k, e⟩ | ⟨k, c, e, z⟩
        · refine .inl ⟨k, ?_⟩
          have : y ≠ x := fun e => hj (nodup_ix hN e1 (e ▸ hi))
          simp [this, e]
        · exact .inr ⟨k, c, e, z.sameBut hs (cne y c e)⟩
    · obtain ⟨w', z⟩ := I.cell y c e
      exact ⟨w', z.sameBut hs (cne y c e)⟩
    · obtain ⟨e, n, ne, nf, d⟩ := I.pin p hp
      exact ⟨(hs.2 p.1 ne).trans e, n, ne, nf, d⟩
  · have hfn : X.fn x = true := by
      rcases hf with z | z
      · exact z
      · rw [z] at hk; cases hk
    obtain ⟨c, hc⟩ := I.ok.has x (.inl hk)
    obtain ⟨w', z⟩ := I.cell x c hc
    refine wpAny_storeName_cell I.ok.kind hk hc z (fun h' hc' hs => ?_)
    obtain ⟨oc, hoc, hocd⟩ := id z
    refine h { s with heap := h' } ⟨I.ok, I.os, I.bare, ⟨fun b o e n hb hx => ?_, fun b o e n hb hx => ?_, I.base.free, fun b o e hx => ?_, I.base.tups, I.base.frzs, I.base.tbls⟩, ⟨m, hn.sameBut hs (Ne.symm (cne x c hc)), fun j y v' e1 e2 e3 => ?_⟩, fun y c' e => ?_, I.free, I.freeC, fun p hp => ?_, tracked ⟨oc, hoc, I.freeC x c hc⟩ hs, by simpa using I.len⟩ ⟨c, hs, .inr hc⟩
    · exact (hs.2 b (Nat.ne_of_lt (Nat.lt_of_lt_of_le (Heap.lt_size e) (I.ok.cab x c hfn hc)))).trans (I.base.keep b o e n hb hx)
    · obtain ⟨sl, e1⟩ := I.base.slot b o e n hb hx
      exact ⟨sl, (hs.2 b (Nat.ne_of_lt (Nat.lt_of_lt_of_le (Heap.lt_size e) (I.ok.cab x c hfn hc)))).trans e1⟩
    · obtain ⟨o', e1⟩ := I.base.there b o e hx
      exact ⟨o', (hs.2 b (Nat.ne_of_lt (Nat.lt_of_lt_of_le (Heap.lt_size e) (I.ok.cab x c hfn hc)))).trans e1⟩
    · by_cases hj : j = i
      · subst hj
        rw [hi] at e1; cases e1
        rw [List.getElem?_set_self hiσ] at e2
        cases e2
        exact ⟨u, r, .inr ⟨.inl hk, c, hc, hc'⟩⟩
      · rw [List.getElem?_set_ne (Ne.symm hj)] at e2
        obtain ⟨u', r', q⟩ := hl j y v' e1 e2 e3
        refine ⟨u', r', ?_⟩
        rcases q with q | ⟨k, c', e, z'⟩
        · exact .inl q
        · refine .inr ⟨k, c', e, z'.sameBut hs ?_⟩
          rintro rfl
          exact hj (nodup_ix hN e1 (I.ok.inj _ _ _ e hc ▸ hi))
    · by_cases hcc : c' = c
      · subst hcc; exact ⟨_, hc'⟩
      · obtain ⟨w2, z2⟩ := I.cell y c' e
        exact ⟨w2, z2.sameBut hs hcc⟩
    · obtain ⟨e, n, ne, nf, d⟩ := I.pin p hp
      refine ⟨(hs.2 p.1 ?_).trans e, n, ne, nf, d⟩
      intro q
      rw [q, hoc] at e
      have q' : oc = p.2 := Option.some.inj e
      exact d w' (by rw [← q']; exact hocd)
theorem store_ok {M : Model} {A : Around} {E : Value → Shared → Prop} {i : Nat} {x : Str} {v : V} {u : Value} {Q : Unit → Shared → Prop} (I : Inv X pins σ H s) (hN : X.N.Nodup) (hi : X.N[i]? = some x) (hx : Loc X.env.scope x) (r : RelV v u)
    (h : ∀ s', Inv X pins (σ.set i (some v)) H s' → Q () s') (hf : X.fn x = true ∨ X.env.scope.names.lookup x = some .local := by first | exact .inl rfl | exact .inr rfl | assumption) : wpAny M A (storeName X.env x u) Q E s :=
  store_ok2 I hN hi hx r (fun s' I' _ => h s' I') hf
theorem Inv.call' {s' : Shared} {ch : List Addr} (I : Inv X pins σ H s) (ho : s'.os = s.os) (u : Un (frs X.stack) ch H H' s.heap s'.heap) (hok : HOk X.prog X.w H' s'.heap) (hg : AllBare s'.gens)
    (hch : ∀ b ∈ ch, (b ∈ X.ex ∨ X.s₀.heap.objs.size ≤ b) ∧ b ≠ X.env.locals ∧ (∀ x c, X.env.cells.lookup x = some c → c ≠ b) ∧ ∀ p ∈ X.pn ++ pins, p.1 ≠ b) : Inv X pins σ H' s' := by
  obtain ⟨h', g', d', t', o'⟩ := s'
  have e : o' = s.os := ho
  subst e
  exact I.call (g' := g') (t' := t') (d' := d') u hok hg hch
end

abbrev XK := Value → Option Addr → Hp → Prop
abbrev St := List (Option V)
abbrev VK := V → Hp → Prop
abbrev TE := St → Hp → VK → Prop
abbrev TT := St → Hp → (Bool → Hp → Prop) → Prop
abbrev TA := St → Hp → (List V → Hp → Prop) → Prop
structure Ends where
  nx : St → Hp → Prop
  rt : VK
  bk : St → Hp → Prop := fun _ _ => False
  ct : St → Hp → Prop := fun _ _ => False
abbrev TS := Ends → St → Hp → Prop

def EP (X : Cx) (pins : List (Addr × Obj)) (σ : St) (Q : VK) (u : Value) (s' : Shared) : Prop := ∃ v H', Inv X pins σ H' s' ∧ RelV v u ∧ Q v H'
def TP (X : Cx) (pins : List (Addr × Obj)) (σ : St) (Q : Bool → Hp → Prop) (b : Bool) (s' : Shared) : Prop := ∃ H', Inv X pins σ H' s' ∧ Q b H'
def AP (X : Cx) (pins : List (Addr × Obj)) (σ : St) (Q : List V → Hp → Prop) (us : List Value) (s' : Shared) : Prop := ∃ vs H', Inv X pins σ H' s' ∧ Vals vs us ∧ Q vs H'
def SP (X : Cx) (pins : List (Addr × Obj)) (D : Ends) (f : Flow) (s' : Shared) : Prop :=
  match f with
  | .next => ∃ σ' H', Inv X pins σ' H' s' ∧ D.nx σ' H'
  | .brk => ∃ σ' H', Inv X pins σ' H' s' ∧ D.bk σ' H'
  | .cont => ∃ σ' H', Inv X pins σ' H' s' ∧ D.ct σ' H'
  | .ret u => ∃ v σ' H', Inv X pins σ' H' s' ∧ RelV v u ∧ D.rt v H'

def PE (X : Cx) (e : Expr) (t : TE) : Prop :=
  ∀ (pins : List (Addr × Obj)) (s : Shared) (σ : St) (H : Hp) (Q : VK), Inv X pins σ H s → t σ H Q → wpAny (model X.prog X.w) X.A (eval e X.env) (EP X pins σ Q) X.xe s
def PT (X : Cx) (e : Expr) (t : TT) : Prop :=
  ∀ (pins : List (Addr × Obj)) (s : Shared) (σ : St) (H : Hp) (Q : Bool → Hp → Prop), Inv X pins σ H s → t σ H Q → wpAny (model X.prog X.w) X.A (isTrue e X.env (eval e X.env)) (TP X pins σ Q) X.xe s
def PW (X : Cx) (e : Expr) (t : TT) : Prop :=
  ∀ (whole : Sem Value) (pins : List (Addr × Obj)) (s : Shared) (σ : St) (H : Hp) (Q : Bool → Hp → Prop), Inv X pins σ H s → t σ H Q → wpAny (model X.prog X.w) X.A (isTrue e X.env whole) (TP X pins σ Q) X.xe s
theorem PW.pt {X : Cx} {e : Expr} {t : TT} (h : PW X e t) : PT X e t := h _
def PA (X : Cx) (es : List Expr) (t : TA) : Prop :=
  ∀ (pos : Pos) (pins : List (Addr × Obj)) (s : Shared) (σ : St) (H : Hp) (Q : List V → Hp → Prop), Inv X pins σ H s → t σ H Q → wpAny (model X.prog X.w) X.A (spliced (backTo pos (starEach es X.env))) (AP X pins σ Q) X.xe s
def PS (X : Cx) (st : Stmt) (t : TS) : Prop :=
  ∀ (pins : List (Addr × Obj)) (s : Shared) (σ : St) (H : Hp) (D : Ends), Inv X pins σ H s → t D σ H → wpAny (model X.prog X.w) X.A (exec st X.env) (SP X pins D) X.xe s
def PSs (X : Cx) (st : List Stmt) (t : TS) : Prop :=
  ∀ (pins : List (Addr × Obj)) (s : Shared) (σ : St) (H : Hp) (D : Ends), Inv X pins σ H s → t D σ H → wpAny (model X.prog X.w) X.A (execs st X.env) (SP X pins D) X.xe s
theorem thn {α : Type} {t : Sem α} {Q Q' : α → Shared → Prop} {M : Model} {A : Around} {E : Value → Shared → Prop} {s : Shared} (h : wpAny M A t Q E s) (hQ : ∀ a s, Q a s → Q' a s) : wpAny M A t Q' E s := wpAny_mono h hQ fun _ _ x => x
end L2

namespace L2
open PySem PySem.Spec PyProof.Rows
section
variable {X : Cx}

def tVar (i : Nat) : TE := fun σ H Q => ∃ v, σ[i]? = some (some v) ∧ Q v H
def tC (v : V) : TE := fun _ H Q => Q v H
theorem pe_var {i : Nat} {x : Str} {pos : Pos} (hN : X.N[i]? = some x) (hv : Vis X.env.scope x) (hd : (x == ("__debug__" : Str)) = false := by decide) (hcd : (x == ("__classdict__" : Str)) = false := by decide) : PE X (.Name x pos) (tVar i) := by
  intro pins s σ H Q I h
  obtain ⟨v, e, h⟩ := h
  obtain ⟨m, hn, hl⟩ := I.loc
  obtain ⟨u, r, l⟩ := hl i x v hN e hv
  have fin : EP X pins σ Q u s := ⟨v, H, I, r, h⟩
  rcases l with ⟨hk, hm⟩ | ⟨hk, c, hc, hcell⟩
  · exact wpAny_Name (wpAny_loadName_local I.ok.kind hk hn hm fin) hd
  · rcases hk with hk | hk
    · exact wpAny_Name (wpAny_loadName_cell I.ok.kind hk hc hcell fin) hd
    · exact wpAny_Name (wpAny_loadName_free I.ok.kind hk hc hcell fin hcd) hd
theorem pe_int {i j pos} : PE X (.Constant (.int i) j pos) (tC (.int i)) := fun _ _ _ H _ I h => wpAny_Constant_int ⟨.int i, H, I.tok _, ⟨_, rfl⟩, h⟩
theorem pe_bl {b j pos} : PE X (.Constant (.bool b) j pos) (tC (.bl b)) := fun _ _ _ H _ I h => Constant_bool ⟨.bl b, H, I, rfl, h⟩
def Gl (X : Cx) (x : Str) : Prop := X.env.kindOf x = some .globalImplicit
theorem ld_glob {E : Value → Shared → Prop} {pins : List (Addr × Obj)} {s : Shared} {σ : St} {H : Hp} {x : Str} {u : Value} {pos : Pos} {Q : Value → Shared → Prop} (I : Inv X pins σ H s) (hg : Gl X x) (hm : X.mg x = some u) (h : Q u s)
    (hd : (x == ("__debug__" : Str)) = false := by decide) : wpAny (model X.prog X.w) X.A (eval (.Name x pos) X.env) Q E s :=
  Calls.Name_function_global I.ok.kind hg (Calls.loadGlobal_global (by rw [I.ok.glob]; exact I.mod.glob.keeps I.bk) hm h) hd
theorem ld_blt {E : Value → Shared → Prop} {pins : List (Addr × Obj)} {s : Shared} {σ : St} {H : Hp} {x : Str} {u : Value} {pos : Pos} {Q : Value → Shared → Prop} (I : Inv X pins σ H s) (hg : Gl X x) (hm : X.mg x = none) (hv : bootBuiltins x = some u) (h : Q u s)
    (hn : x ≠ "__name__" := by decide) (hd : (x == ("__debug__" : Str)) = false := by decide) : wpAny (model X.prog X.w) X.A (eval (.Name x pos) X.env) Q E s := by
  obtain ⟨mb, h1, h2⟩ := I.mod.blt
  exact Calls.Name_function_global I.ok.kind hg (Calls.loadGlobal_builtin (by rw [I.ok.glob]; exact I.mod.glob.keeps I.bk) hm (by rw [I.ok.blt]; exact h1.keeps I.bk) ((h2 x hn).trans hv) h) hd
theorem pe_glob {x : Str} {v : V} {u : Value} {pos : Pos} (hg : Gl X x) (hm : X.mg x = some u) (r : RelV v u) (hd : (x == ("__debug__" : Str)) = false := by decide) : PE X (.Name x pos) (tC v) :=
  fun _ _ _ H _ I h => ld_glob I hg hm ⟨v, H, I, r, h⟩ hd
theorem pe_bltn {x : Str} {v : V} {u : Value} {pos : Pos} (hg : Gl X x) (hm : X.mg x = none) (hv : bootBuiltins x = some u) (r : RelV v u) (hn : x ≠ "__name__" := by decide) (hd : (x == ("__debug__" : Str)) = false := by decide) : PE X (.Name x pos) (tC v) :=
  fun _ _ _ H _ I h => ld_blt I hg hm hv ⟨v, H, I, r, h⟩ hn hd

variable {a b : Expr} {ta tb : TE} {pos : Pos}
variable {tA tB' : TT} {rest : List Expr}
def tAnd (t u : TT) : TT := fun σ H Q => t σ H fun c H1 => if c = true then u σ H1 Q else Q false H1
def tOr (t u : TT) : TT := fun σ H Q => t σ H fun c H1 => if c = true then Q true H1 else u σ H1 Q
def tNot (t : TT) : TT := fun σ H Q => t σ H fun c H1 => Q (!c) H1
theorem pw_and1 (ha : PT X a tA) : PW X (.BoolOp .And [a] pos) tA := by
  intro wh pins s σ H Q I h
  refine isTrue_and (thn (ha pins s σ H Q I h) fun c s1 e => ?_)
  cases c with
  | true => exact isTrue_and_nil e
  | false => exact e
theorem pw_or1 (ha : PT X a tA) : PW X (.BoolOp .Or [a] pos) tA := by
  intro wh pins s σ H Q I h
  refine isTrue_or (thn (ha pins s σ H Q I h) fun c s1 e => ?_)
  cases c with
  | false => exact isTrue_or_nil e
  | true => exact e
theorem pw_and (ha : PT X a tA) (hb : PW X (.BoolOp .And (b :: rest) pos) tB') : PW X (.BoolOp .And (a :: b :: rest) pos) (tAnd tA tB') := by
  intro wh pins s σ H Q I h
  refine isTrue_and (thn (ha pins s σ H _ I h) fun c s1 ⟨H1, I1, q1⟩ => ?_)
  cases c with
  | true => exact hb wh pins s1 σ H1 Q I1 q1
  | false => exact ⟨H1, I1, q1⟩
theorem pw_or (ha : PT X a tA) (hb : PW X (.BoolOp .Or (b :: rest) pos) tB') : PW X (.BoolOp .Or (a :: b :: rest) pos) (tOr tA tB') := by
  intro wh pins s σ H Q I h
  refine isTrue_or (thn (ha pins s σ H _ I h) fun c s1 ⟨H1, I1, q1⟩ => ?_)
  cases c with
  | true => exact ⟨H1, I1, q1⟩
  | false => exact hb wh pins s1 σ H1 Q I1 q1
theorem pt_not (ha : PT X a tA) : PT X (.UnaryOp .Not a pos) (tNot tA) := by
  intro pins s σ H Q I h
  exact isTrue_not (ha pins s σ H (fun c H1 => Q (!c) H1) I h)
def tAndV (ta tb : TE) : TE := fun σ H Q => ta σ H fun x H1 => ∃ c, x = .bl c ∧ if c = true then tb σ H1 Q else Q (.bl false) H1
def tNotV (ta : TE) : TE := fun σ H Q => ta σ H fun x H1 => ∃ c, x = .bl c ∧ Q (.bl (!c)) H1
theorem pe_one {op} {t : TE} (h : PE X a t) : PE X (.BoolOp op [a] pos) t := fun pins s σ H Q I hw => BoolOp_one (h pins s σ H Q I hw)
theorem pe_and (ha : PE X a ta) (hb : PE X (.BoolOp .And (b :: rest) pos) tb) : PE X (.BoolOp .And (a :: b :: rest) pos) (tAndV ta tb) := by
  intro pins s σ H Q I h
  refine BoolOp_and (thn (ha pins s σ H _ I h) fun v s1 ⟨x, H1, I1, r1, q1⟩ => ?_)
  obtain ⟨c, rfl, q1⟩ := q1
  cases r1
  refine wpAny_truthy_bool ?_
  cases c with
  | true => exact hb pins s1 σ H1 Q I1 q1
  | false => exact ⟨.bl false, H1, I1, rfl, q1⟩
theorem pe_not (ha : PE X a ta) : PE X (.UnaryOp .Not a pos) (tNotV ta) := by
  intro pins s σ H Q I h
  refine UnaryOp_ (thn (ha pins s σ H _ I h) fun v s1 ⟨x, H1, I1, r1, q1⟩ => ?_)
  obtain ⟨c, rfl, q1⟩ := q1
  cases r1
  exact not_of (wpAny_truthy_bool ⟨.bl (!c), H1, I1, rfl, q1⟩)
end
end L2

namespace L2
open PySem PySem.Spec PyProof.Rows

def SqL (K : PySem.W.Frag) (H : Hp) (a : Addr) (xs : List V) : Prop :=
  Rd H a (.lst xs) ∨
    ∃ (o : Obj) (its : Array Value) (n : Nat), K.lookup a = some o ∧ o.cls = .type "list" ∧ o.dict = none ∧ o.data = .seq its n ∧ its.size ≤ sizeLine ∧ Vals xs its.toList
def SqT (K : PySem.W.Frag) (H : Hp) (a : Addr) (xs : List V) : Prop :=
  Rd H a (.tup xs) ∨
    ∃ (o : Obj) (its : Array Value) (n : Nat), K.lookup a = some o ∧ o.cls = .type "tuple" ∧ o.data = .seq its n ∧ its.size ≤ sizeLine ∧ Vals xs its.toList
def absV : Value → Option V
  | .none => some .non
  | .bool b => some (.bl b)
  | .int i _ => some (.int i)
  | .str x _ => some (.str x)
  | .bytes b _ => some (.byt b)
  | .float b _ => some (.flt b)
  | .ref a => some (.ref a)
  | .type n => some (.ty n)
  | _ => none
theorem RelV.abs {x : V} {u : Value} (r : RelV x u) : absV u = some x := by
  cases x with
  | non => cases r; rfl
  | bl _ => cases r; rfl
  | int _ => obtain ⟨t, rfl⟩ := r; rfl
  | str _ => obtain ⟨t, rfl⟩ := r; rfl
  | byt _ => obtain ⟨t, rfl⟩ := r; rfl
  | flt _ => obtain ⟨t, rfl⟩ := r; rfl
  | ref _ => cases r; rfl
  | ty _ => cases r; rfl
theorem RelV.inj {x y : V} {u : Value} (r : RelV x u) (q : RelV y u) : x = y := Option.some.inj (r.abs.symm.trans q.abs)
theorem Vals.inj : ∀ {xs ys : List V} {us : List Value}, Vals xs us → Vals ys us → xs = ys
  | _, _, _, .nil, .nil => rfl
  | _, _, _, .cons r t, .cons r' t' => by rw [r.inj r', Vals.inj t t']
section
variable {X : Cx} {pins : List (Addr × Obj)} {σ : St} {H : Hp} {s : Shared} {a : Addr} {xs ys : List V}
theorem SqL.of {K : PySem.W.Frag} (h : H a = some (.lst xs)) : SqL K H a xs := .inl (.inl h)
theorem SqT.of {K : PySem.W.Frag} (h : H a = some (.tup xs)) : SqT K H a xs := .inl (.inl h)
theorem Inv.list (I : Inv X pins σ H s) (h : SqL X.K H a xs) : ∃ its : List Value, Vals xs its ∧ PlainL s.heap a its.toArray ∧ xs.length ≤ sizeLine := by
  rcases h with h | ⟨o, its, n, hk, hc, hd, hs, hz, r⟩
  · obtain ⟨z, its, n, r, e⟩ := h.ok I.hok
    exact ⟨its, r, ⟨_, n, e, rfl, rfl, rfl⟩, z⟩
  · refine ⟨its.toList, r, ⟨o, n, I.kIn a o hk, hc, hd, by simpa using hs⟩, ?_⟩
    have e := r.length
    simp only [Array.length_toList] at e
    omega
theorem Inv.tuple (I : Inv X pins σ H s) (h : SqT X.K H a xs) : ∃ its : List Value, Vals xs its ∧ IsTup s.heap a its.toArray ∧ xs.length ≤ sizeLine := by
  rcases h with h | ⟨o, its, n, hk, hc, hs, hz, r⟩
  · obtain ⟨z, its, r, p⟩ := h.ok I.hok
    exact ⟨its, r, p, z⟩
  · refine ⟨its.toList, r, ⟨o, I.kIn a o hk, hc, n, by simpa using hs⟩, ?_⟩
    have e := r.length
    simp only [Array.length_toList] at e
    omega
theorem Inv.list_inj (I : Inv X pins σ H s) (h : SqL X.K H a xs) (h' : SqL X.K H a ys) : xs = ys := by
  obtain ⟨its, r, ⟨o, n, e, _, _, d⟩, _⟩ := I.list h
  obtain ⟨its', r', ⟨o', n', e', _, _, d'⟩, _⟩ := I.list h'
  rw [e] at e'; cases e'
  rw [d] at d'
  injection d' with d1 _
  have : its = its' := by simpa using congrArg Array.toList d1
  subst this
  exact r.inj r'
theorem Inv.tuple_inj (I : Inv X pins σ H s) (h : SqT X.K H a xs) (h' : SqT X.K H a ys) : xs = ys := by
  obtain ⟨its, r, ⟨o, e, _, n, d⟩, _⟩ := I.tuple h
  obtain ⟨its', r', ⟨o', e', _, n', d'⟩, _⟩ := I.tuple h'
  rw [e] at e'; cases e'
  rw [d] at d'
  injection d' with d1 _
  have : its = its' := by simpa using congrArg Array.toList d1
  subst this
  exact r.inj r'
end

abbrev Cx.wish (X : Cx) (E : Value → Shared → Prop) : Cx := { X with xe := E }
abbrev Cx.nox (X : Cx) : Cx := X.wish fun _ _ => False
theorem Cx.Ok.wish {X : Cx} (ok : X.Ok) (E : Value → Shared → Prop) : (X.wish E).Ok :=
  ⟨ok.mod, ok.kind, ok.glob, ok.blt, ok.above, ok.inj, ok.has, ok.cab, ok.hd, ok.frames, ok.stk, ok.exf, ok.bs, ok.bsz, ok.noex, ok.exfs, ok.funs, ok.frf⟩
theorem Cx.Ok.unwish {X : Cx} {E : Value → Shared → Prop} (ok : (X.wish E).Ok) : X.Ok :=
  ⟨ok.mod, ok.kind, ok.glob, ok.blt, ok.above, ok.inj, ok.has, ok.cab, ok.hd, ok.frames, ok.stk, ok.exf, ok.bs, ok.bsz, ok.noex, ok.exfs, ok.funs, ok.frf⟩
section
variable {X : Cx} {pins : List (Addr × Obj)} {σ : St} {H : Hp} {s : Shared} {E : Value → Shared → Prop}
theorem Inv.wish (I : Inv X pins σ H s) (E : Value → Shared → Prop) : Inv (X.wish E) pins σ H s := ⟨I.ok.wish E, I.os, I.bare, I.base, I.loc, I.cell, I.free, I.freeC, I.pin, I.hok, I.len⟩
theorem Inv.unwish (I : Inv (X.wish E) pins σ H s) : Inv X pins σ H s := ⟨I.ok.unwish, I.os, I.bare, I.base, I.loc, I.cell, I.free, I.freeC, I.pin, I.hok, I.len⟩
theorem SP.unwish {D : Ends} {f : Flow} {s' : Shared} (h : SP (X.wish E) pins D f s') : SP X pins D f s' := by
  cases f with
  | next => obtain ⟨σ', H', I, q⟩ := h; exact ⟨σ', H', I.unwish, q⟩
  | brk => obtain ⟨σ', H', I, q⟩ := h; exact ⟨σ', H', I.unwish, q⟩
  | cont => obtain ⟨σ', H', I, q⟩ := h; exact ⟨σ', H', I.unwish, q⟩
  | ret u => obtain ⟨v, σ', H', I, r, q⟩ := h; exact ⟨v, σ', H', I.unwish, r, q⟩
theorem PE.nox {e : Expr} {t : TE} (h : PE X.nox e t) : PE X e t := fun pins s σ H Q I hw =>
  wpAny_mono (h pins s σ H Q (I.wish _) hw) (fun _ _ ⟨v, H', I', r, q⟩ => ⟨v, H', I'.unwish, r, q⟩) fun _ _ z => False.elim z
theorem PT.nox {e : Expr} {t : TT} (h : PT X.nox e t) : PT X e t := fun pins s σ H Q I hw =>
  wpAny_mono (h pins s σ H Q (I.wish _) hw) (fun _ _ ⟨H', I', q⟩ => ⟨H', I'.unwish, q⟩) fun _ _ z => False.elim z
theorem PSs.nox {st : List Stmt} {t : TS} (h : PSs X.nox st t) : PSs X st t := fun pins s σ H D I hw =>
  wpAny_mono (h pins s σ H D (I.wish _) hw) (fun _ _ q => q.unwish) fun _ _ z => False.elim z
end

section
variable {X : Cx} {st : Stmt} {rest : List Stmt} {t u : TS} {e : Expr} {te : TE} {pos : Pos}
def tNext : TS := fun D σ H => D.nx σ H
def tSeq (t u : TS) : TS := fun D σ H => t { D with nx := u D } σ H
theorem pss_nil : PSs X [] tNext := fun _ _ σ H _ I h => wpAny_execs_nil ⟨σ, H, I, h⟩
theorem pss_cons (h1 : PS X st t) (h2 : PSs X rest u) : PSs X (st :: rest) (tSeq t u) := by
  intro pins s σ H D I h
  refine wpAny_execs_cons (thn (h1 pins s σ H { D with nx := u D } I h) fun f s1 q => ?_)
  cases f with
  | next =>
    obtain ⟨σ', H', I', q⟩ := q
    exact h2 pins s1 σ' H' D I' q
  | ret v => exact q
  | brk => exact q
  | cont => exact q
theorem pss_one (h1 : PS X st t) : PSs X [st] t := by
  intro pins s σ H D I h
  refine wpAny_execs_cons (thn (h1 pins s σ H D I h) fun f s1 q => ?_)
  cases f with
  | next => exact wpAny_execs_nil q
  | ret v => exact q
  | brk => exact q
  | cont => exact q
theorem Inv.quiet {pins : List (Addr × Obj)} {σ : St} {H : Hp} {s : Shared} (I : Inv X pins σ H s) : interactive X.env = false := by simp [interactive, I.ok.kind]
def tDrop (te : TE) : TS := fun D σ H => te σ H fun _ H1 => D.nx σ H1
theorem ps_expr (he : PE X e te) (hs : swapsWith e none pos.line X.env = pure false := by rfl) : PS X (.Expr e pos) (tDrop te) := by
  intro pins s σ H D I h
  exact wpAny_Expr_any (thn (he pins s σ H _ I h) fun v s1 ⟨x, H1, I1, r1, q1⟩ => ⟨σ, H1, I1, q1⟩) I.quiet hs
def tRet (te : TE) : TS := fun D σ H => te σ H D.rt
theorem ps_ret (he : PE X e te) : PS X (.Return (some e) pos) (tRet te) := by
  intro pins s σ H D I h
  exact wpAny_Return_some (thn (he pins s σ H _ I h) fun v s1 ⟨x, H1, I1, r1, q1⟩ => ⟨x, σ, H1, I1, r1, q1⟩)
def tIfS (c : TT) (t u : TS) : TS := fun D σ H => c σ H fun b H1 => if b = true then t D σ H1 else u D σ H1
theorem ps_if {c : Expr} {a b : List Stmt} {tc : TT} (hc : PT X c tc) (ha : PSs X a t) (hb : PSs X b u) : PS X (.If c a b pos) (tIfS tc t u) := by
  intro pins s σ H D I h
  refine wpAny_If (thn (hc pins s σ H _ I h) fun d s1 ⟨H1, I1, q1⟩ => ?_)
  cases d with
  | true => exact ha pins s1 σ H1 D I1 q1
  | false => exact hb pins s1 σ H1 D I1 q1
def tNever : TS := fun _ _ _ => False
theorem ps_never : PS X st tNever := fun _ _ _ _ _ _ h => h.elim
end

abbrev TG := V → St → Hp → (St → Hp → Prop) → Prop
abbrev TGs := List V → St → Hp → (St → Hp → Prop) → Prop
def PG (X : Cx) (target : Expr) (t : TG) : Prop :=
  ∀ (pins : List (Addr × Obj)) (s : Shared) (σ : St) (H : Hp) (v : V) (u : Value) (Q : St → Hp → Prop), Inv X pins σ H s → RelV v u → t v σ H Q →
    wpAny (model X.prog X.w) X.A (assign target X.env u) (fun _ s' => ∃ σ' H', Inv X pins σ' H' s' ∧ Q σ' H') X.xe s
def PGs (X : Cx) (ts : List Expr) (t : TGs) : Prop :=
  ∀ (pins : List (Addr × Obj)) (s : Shared) (σ : St) (H : Hp) (vs : List V) (us : List Value) (Q : St → Hp → Prop), Inv X pins σ H s → Vals vs us → t vs σ H Q →
    wpAny (model X.prog X.w) X.A (assignInOrder ((assignEach ts X.env).map (·.2)) us) (fun _ s' => ∃ σ' H', Inv X pins σ' H' s' ∧ Q σ' H') X.xe s
abbrev TSet := V → V → V → Hp → (Hp → Prop) → Prop
def PSet (X : Cx) (t : TSet) : Prop :=
  ∀ (pins : List (Addr × Obj)) (s : Shared) (σ : St) (H : Hp) (o i v : V) (ov iv u : Value) (Q : Hp → Prop), Inv X pins σ H s → RelV o ov → RelV i iv → RelV v u → t o i v H Q →
    wpAny (model X.prog X.w) X.A (setItem ov iv u) (fun _ s' => ∃ H', Inv X pins σ H' s' ∧ Q H') X.xe s
section
variable {X : Cx} {pos : Pos}
def gName (i : Nat) : TG := fun v σ H Q => Q (σ.set i (some v)) H
theorem pg_name {i : Nat} {x : Str} (hN : X.N.Nodup) (hi : X.N[i]? = some x) (hx : Loc X.env.scope x) (hf : X.fn x = true ∨ X.env.scope.names.lookup x = some .local := by first | exact .inl rfl | exact .inr rfl | assumption) : PG X (.Name x pos) (gName i) := by
  intro pins s σ H v u Q I r h
  exact wpAny_assign_Name (store_ok I hN hi hx r (fun s' I' => ⟨_, H, I', h⟩) hf)
def gNil : TGs := fun vs σ H Q => vs = [] ∧ Q σ H
def gCons (t : TG) (u : TGs) : TGs := fun vs σ H Q => ∃ v r, vs = v :: r ∧ t v σ H fun σ' H' => u r σ' H' Q
theorem pgs_nil : PGs X [] gNil := by
  intro pins s σ H vs us Q I r h
  obtain ⟨e, h⟩ := h
  subst e
  cases r
  exact assignInOrder_nil ⟨σ, H, I, h⟩
theorem pgs_cons {e : Expr} {es : List Expr} {t : TG} {u : TGs} (h1 : PG X e t) (h2 : PGs X es u)
    (hs : (assignEach (e :: es) X.env).map (·.2) = assign e X.env :: (assignEach es X.env).map (·.2) := by rfl) : PGs X (e :: es) (gCons t u) := by
  intro pins s σ H vs us Q I r h
  obtain ⟨v, vr, e1, h⟩ := h
  subst e1
  cases r with
  | cons r rr =>
    rw [hs]
    refine assignInOrder_cons (thn (h1 pins s σ H _ _ _ I r h) fun _ s1 ⟨σ1, H1, I1, q1⟩ => ?_)
    exact h2 pins s1 σ1 H1 _ _ Q I1 rr q1
def gTup (K : PySem.W.Frag) (n : Nat) (t : TGs) : TG := fun v σ H Q => ∃ a xs, v = .ref a ∧ SqT K H a xs ∧ xs.length = n ∧ t xs σ H Q
theorem pg_tup {es : List Expr} {k : Nat} {t : TGs} {n : Nat} (hc : X.calm = true) (h : PGs X es t)
    (hn : (assignEach es X.env).length = n := by rfl) (hst : (assignEach es X.env).findIdx? (·.1) = none := by rfl) : PG X (.Tuple es k pos) (gTup X.K n t) := by
  intro pins s σ H v u Q I r hw
  obtain ⟨a, xs, e1, hq, hl, hw⟩ := hw
  subst e1
  cases r
  obtain ⟨its, rv, ht, hz⟩ := I.tuple hq
  refine assign_Tuple_tuple (I.ok.hd hc) ht (by simp [hn, ← hl, rv.length]) hst fun h' hx => ?_
  have I1 : Inv X pins σ H { s with heap := h' } := I.kept (t' := s.toks) fun b o e => hx b o (Nat.ne_of_lt (Heap.lt_size e)) e
  exact h pins _ σ H xs _ Q I1 (by simpa using rv) hw
def gSub (to ti : TE) (t : TSet) : TG := fun v σ H Q => to σ H fun o H1 => ti σ H1 fun i H2 => t o i v H2 fun H3 => Q σ H3
theorem pg_sub {o i : Expr} {to ti : TE} {t : TSet} (ho : PE X o to) (hi : PE X i ti) (hs : PSet X t)
    (ha : ∀ v, assign (.Subscript o i pos) X.env v = (do
      let ov ← holding [v] (eval o X.env)
      let iv ← holding [v, ov] (eval i X.env)
      standAt pos
      holding [v, ov, iv] (setItem ov iv v)
      release [v, ov, iv] []) := by intro _; rfl) : PG X (.Subscript o i pos) (gSub to ti t) := by
  intro pins s σ H v u Q I r h
  rw [ha]
  refine wpAny_bind (wpAny_holding (thn (ho pins s σ H _ I h) fun ov s1 ⟨x, H1, I1, r1, q1⟩ => ?_))
  refine wpAny_bind (wpAny_holding (thn (hi pins s1 σ H1 _ I1 q1) fun iv s2 ⟨y, H2, I2, r2, q2⟩ => ?_))
  refine wpAny_bind (wpAny_standAt (wpAny_bind (wpAny_holding (thn (hs pins s2 σ H2 x y v ov iv u _ I2 r1 r2 r q2) fun _ s3 ⟨H3, I3, q3⟩ => ?_))))
  exact wpAny_release ⟨σ, H3, I3, q3⟩
def tAsg (te : TE) (g : TG) : TS := fun D σ H => te σ H fun x H1 => g x σ H1 D.nx
theorem ps_asg {tg e : Expr} {te : TE} {g : TG} (he : PE X e te) (hg : PG X tg g) (hs : swapsWithSole [tg] e pos.line X.env = pure false := by rfl) (hw : swappedStores [tg] e X.env = pure none := by rfl)
    (h1 : (assignEach [tg] X.env).map (·.2) = [assign tg X.env] := by rfl) : PS X (.Assign [tg] e pos) (tAsg te g) := by
  intro pins s σ H D I h
  refine wpAny_Assign_stores (thn (he pins s σ H _ I h) fun v s1 ⟨x, H1, I1, r1, q1⟩ => ?_) hs hw
  rw [h1]
  exact thn (hg pins s1 σ H1 x v _ I1 r1 q1) fun _ s2 q => q
theorem ps_set {i : Nat} {x : Str} {e : Expr} {te : TE} {pos' : Pos} (hN : X.N.Nodup) (hi : X.N[i]? = some x) (hx : Loc X.env.scope x) (he : PE X e te) (hs : swapsWith e (some (.Name x pos')) pos.line X.env = pure false := by rfl) (hf : X.fn x = true ∨ X.env.scope.names.lookup x = some .local := by first | exact .inl rfl | exact .inr rfl | assumption) :
    PS X (.Assign [.Name x pos'] e pos) (tAsg te (gName i)) := by
  intro pins s σ H D I h
  refine wpAny_Assign_Name (thn (he pins s σ H _ I h) fun v s1 ⟨y, H1, I1, r1, q1⟩ => ?_) hs
  exact store_ok I1 hN hi hx r1 (fun s2 I2 => ⟨_, H1, I2, q1⟩) hf
end

section
variable {X : Cx} {pos : Pos}
end

structure It where
  go : Nat → Hp → Prop
  yld : Nat → Hp → V → Hp → Prop
  stop : Nat → Hp → Prop
def FpOk (X : Cx) (pins : List (Addr × Obj)) (H : Hp) (b : Addr) : Prop :=
  H b = none ∧ b ≠ X.env.locals ∧ b ∉ X.fs ∧ (b ∈ X.ex ∨ X.s₀.heap.objs.size ≤ b) ∧ (∀ x c, X.env.cells.lookup x = some c → c ≠ b) ∧ ∀ p ∈ X.pn ++ pins, p.1 ≠ b
theorem Inv.fpOk {X : Cx} {pins : List (Addr × Obj)} {σ : St} {H H' : Hp} {s : Shared} {b : Addr} (I : Inv X pins σ H s) (hb : s.heap.objs.size ≤ b) (hn : H' b = none) : FpOk X pins H' b := by
  refine ⟨hn, Nat.ne_of_gt (Nat.lt_of_lt_of_le I.lt hb), I.nofs hb, .inr (Nat.le_trans I.sz hb), fun x c e z => ?_, fun p hp z => ?_⟩
  · obtain ⟨v, q⟩ := I.cell x c e
    exact absurd (Nat.lt_of_lt_of_le q.lt (by rw [z]; exact hb)) (Nat.lt_irrefl _)
  · exact absurd (Nat.lt_of_lt_of_le (Heap.lt_size (I.pin p hp).1) (by rw [z]; exact hb)) (Nat.lt_irrefl _)
structure Turn (P : Program) (w : World) (K : PySem.W.Frag) (tg : Expr) (J : It) (fp : List Addr) (it : Addr) (tn : Nat → Heap → Prop) : Prop where
  mem : it ∈ fp
  obj : ∀ i h, tn i h → ∀ b ∈ fp, ∃ o, h.get? b = some o ∧ ∀ v, o.data ≠ .cell v
  keep : ∀ i h h', tn i h → (∀ b ∈ fp, ∀ o, h.get? b = some o → h'.get? b = some o) → tn i h'
  item : ∀ (X : Cx), X.prog = P → X.w = w → X.K = K → X.calm = true → ∀ (i : Nat) (pins : List (Addr × Obj)) (s : Shared) (σ : St) (H : Hp) (E : Value → Shared → Prop), Inv X pins σ H s → (∀ b ∈ fp, FpOk X pins H b) → tn i s.heap → J.go i H →
    wpAny (model P w) X.A (pyNext (.ref it)) (fun r s1 => ∃ u, r = some u ∧
      wpAny (model P w) X.A (letOwnedTupleGo tg (.ref it) u) (fun _ s2 => ∃ x H', Inv X pins σ H' s2 ∧ RelV x u ∧ J.yld i H x H' ∧ tn (i + 1) s2.heap ∧ ∀ b ∈ fp, H' b = none) E s1) E s
  done : ∀ (X : Cx), X.prog = P → X.w = w → X.K = K → X.calm = true → ∀ (i : Nat) (pins : List (Addr × Obj)) (s : Shared) (σ : St) (H : Hp) (E : Value → Shared → Prop), Inv X pins σ H s → (∀ b ∈ fp, FpOk X pins H b) → tn i s.heap → J.stop i H →
    wpAny (model P w) X.A (pyNext (.ref it)) (fun r s1 => r = none ∧ Inv X pins σ H s1) E s
  self : ∀ (A : Around) (i : Nat) (s : Shared) (Q : Value → Shared → Prop) (E : Value → Shared → Prop), tn i s.heap → Q (.ref it) s → wpAny (model P w) A (pyIter (.ref it)) Q E s
abbrev TI := St → Hp → (It → Hp → Prop) → Prop
def PIE (X : Cx) (pins : List (Addr × Obj)) (σ : St) (tg : Expr) (R : It → Hp → Prop) (itv : Value) (s2 : Shared) : Prop :=
  ∃ (it : Addr) (fp : List Addr) (tn : Nat → Heap → Prop) (J : It) (H' : Hp), itv = .ref it ∧ Inv X pins σ H' s2 ∧ Turn X.prog X.w X.K tg J fp it tn ∧ tn 0 s2.heap ∧ (∀ b ∈ fp, FpOk X pins H' b) ∧ R J H'
def PI (X : Cx) (tg iter : Expr) (wi : TI) : Prop :=
  ∀ (pins : List (Addr × Obj)) (s : Shared) (σ : St) (H : Hp) (R : It → Hp → Prop), Inv X pins σ H s → wi σ H R →
    wpAny (model X.prog X.w) X.A (eval iter X.env) (fun v s1 => wpAny (model X.prog X.w) X.A (pyIter v) (PIE X pins σ tg R) X.xe s1) X.xe s

theorem go_of {M : Model} {A : Around} {E : Value → Shared → Prop} {s : Shared} {tg : Expr} {it : Addr} {u : Value} {o : Obj} {n : String} {vs : Array Value} {Q : Unit → Shared → Prop} (ho : s.heap.get? it = some o) (hc : o.cls = .type n) (hd : o.data = .fields vs)
    (hn : ["enumerate", "zip", "dict_itemiterator", "dict_reverseitemiterator", "odict_iterator", "itertools.zip_longest", "itertools.pairwise"].contains n = false) (hQ : Q () s) : wpAny M A (letOwnedTupleGo tg (.ref it) u) Q E s := by
  unfold letOwnedTupleGo
  cases tg <;> first
    | exact wpAny_pure hQ
    | (cases u <;> first
        | exact wpAny_pure hQ
        | (refine wpAny_bind (wpAny_load ho ?_)
           rw [hc, hd]
           show wpAny M A (if (["enumerate", "zip", "dict_itemiterator", "dict_reverseitemiterator", "odict_iterator", "itertools.zip_longest", "itertools.pairwise"].contains n && vs[0]? == some (rawInt _)) = true then _ else _) Q E s
           rw [if_neg (by intro h; rw [hn, Bool.false_and] at h; cases h)]
           exact wpAny_pure hQ))

def Itl (K : PySem.W.Frag) (a : Addr) : It :=
  ⟨fun i H => ∃ xs x, SqL K H a xs ∧ xs[i]? = some x, fun i H x H' => H' = H ∧ ∀ xs, SqL K H a xs → xs[i]? = some x, fun i H => ∃ xs, SqL K H a xs ∧ xs.length ≤ i⟩
def Itr (lo : Int) (n : Nat) : It := ⟨fun i _ => i < n, fun i H x H' => H' = H ∧ x = .int (lo + i), fun i _ => n ≤ i⟩
theorem turn_list {P : Program} {w : World} {K : PySem.W.Frag} {tg : Expr} (a it : Addr) : Turn P w K tg (Itl K a) [it] it (fun i h => h.IsListIter it a i) where
  mem := by simp
  obj := fun i h st b hb => by
    have e : b = it := by simpa using hb
    subst e
    obtain ⟨o, e, c, d⟩ := st
    exact ⟨o, e, fun v z => by rw [d] at z; cases z⟩
  keep := fun i h h' st k => st.at fun o e => k it (by simp) o e
  item := by
    intro X hP hw hK hc i pins s σ H E I hf st hg
    subst hP hw hK
    obtain ⟨xs, x, hq, hx⟩ := hg
    obtain ⟨its, rv, p, hz⟩ := I.list hq
    obtain ⟨u, hu, ru⟩ := rv.get hx
    obtain ⟨f0, f1, f2, f3, f4, f5⟩ := hf it (by simp)
    refine wpAny_pyNext_list_item st p.isList (x := u) (by simpa using hu) fun h' st' sb => ?_
    have I1 : Inv X pins σ H { s with heap := h' } := I.turned (t' := s.toks) (fun b o hb e => (sb.2 b hb).trans e) f0 f1 f3 f4 f5
    obtain ⟨o, e, c, d⟩ := id st'
    exact ⟨u, rfl, go_of (s := { s with heap := h' }) e c d (by decide) ⟨x, H, I1, ru, ⟨rfl, fun ys hy => by rw [I.list_inj hy hq]; exact hx⟩, st', fun b hb => (hf b hb).1⟩⟩
  done := by
    intro X hP hw hK hc i pins s σ H E I hf st hg
    subst hP hw hK
    obtain ⟨xs, hq, hx⟩ := hg
    obtain ⟨its, rv, p, hz⟩ := I.list hq
    obtain ⟨f0, f1, f2, f3, f4, f5⟩ := hf it (by simp)
    have hl := rv.length
    exact wpAny_pyNext_list_end (I.ok.hd hc) st p.isList (by simp; omega) fun h' eb => ⟨rfl, I.turned (t' := s.toks) (fun b o hb e => eb b o hb e) f0 f1 f3 f4 f5⟩
  self := fun _ _ _ _ _ st h => wpAny_pyIter_listiter st h
theorem turn_range {P : Program} {w : World} {K : PySem.W.Frag} {tg : Expr} (it : Addr) (lo : Int) (n : Nat) : Turn P w K tg (Itr lo n) [it] it (fun i h => IsRangeIter h it (lo + (i : Nat) * 1) ((n : Int) - (i : Nat)) 1) where
  mem := by simp
  obj := fun i h st b hb => by
    have e : b = it := by simpa using hb
    subst e
    exact ⟨_, st, fun v z => by
      have z' : Data.fields _ = Data.cell v := z
      cases z'⟩
  keep := fun i h h' st k => k it (by simp) _ st
  item := by
    intro X hP hw hK hc i pins s σ H E I hf st hg
    subst hP hw hK
    obtain ⟨f0, f1, f2, f3, f4, f5⟩ := hf it (by simp)
    have W := Walks.range (prog := X.prog) (w := X.w) (I.ok.hd hc) it lo 1 n
    refine W.item i s _ _ hg st fun v h' tk hv st' kk => ?_
    obtain ⟨t, rfl⟩ := hv
    have I1 : Inv X pins σ H { s with heap := h', toks := tk } := I.turned (fun b o hb e => kk b o (by simpa using hb) e) f0 f1 f3 f4 f5
    refine ⟨_, rfl, go_of (s := { s with heap := h', toks := tk }) (n := "range_iterator") st' rfl rfl (by decide) ⟨.int (lo + i), H, I1, ⟨t, ?_⟩, ⟨rfl, rfl⟩, st', fun b hb => (hf b hb).1⟩⟩
    rw [Int.mul_one]
  done := by
    intro X hP hw hK hc i pins s σ H E I hf st hg
    subst hP hw hK
    obtain ⟨f0, f1, f2, f3, f4, f5⟩ := hf it (by simp)
    exact wpAny_pyNext_range_end (I.ok.hd hc) st (by have : n ≤ i := hg; omega) fun h' eb => ⟨rfl, I.turned (t' := s.toks) (fun b o hb e => eb b o hb e) f0 f1 f3 f4 f5⟩
  self := fun _ _ _ _ _ st h => wpAny_pyIter_rangeiter st h
end L2

namespace L2
open PySem PySem.Spec PyProof.Rows
section
variable {X : Cx} {tg : Expr}
def iList (K : PySem.W.Frag) (tl : TE) : TI := fun σ H R => tl σ H fun x H1 => ∃ a, x = .ref a ∧ (∃ xs, SqL K H1 a xs) ∧ R (Itl K a) H1
theorem pi_list {l : Expr} {tl : TE} (hl : PE X l tl) : PI X tg l (iList X.K tl) := by
  intro pins s σ H R I h
  refine thn (hl pins s σ H _ I h) fun v s1 ⟨x, H1, I1, r1, q1⟩ => ?_
  obtain ⟨a, e, ⟨xs, hq⟩, q⟩ := q1
  subst e
  cases r1
  obtain ⟨its, rv, p, hz⟩ := I1.list hq
  refine wpAny_pyIter_list p.isList ?_
  refine ⟨s1.heap.objs.size, [s1.heap.objs.size], _, _, H1, rfl, I1.kept (t' := s1.toks) fun b o e => Heap.get?_push_of_some _ e, turn_list a _, ⟨_, Heap.get?_push_size _ rfl, rfl, rfl⟩, fun b hb => ?_, q⟩
  have e : b = s1.heap.objs.size := by simpa using hb
  subst e
  exact I1.fpOk (Nat.le_refl _) (I1.hok.fresh (Nat.le_refl _))
theorem range_it {pins : List (Addr × Obj)} {σ : St} {H : Hp} {s : Shared} {R : It → Hp → Prop} {E : Value → Shared → Prop} {lo hi : Int} {t u v : Tok} {tk : Nat} (I : Inv X pins σ H s) (h1 : -(2 ^ 62) ≤ lo) (h2 : lo < 2 ^ 62) (h3 : -(2 ^ 62) ≤ hi) (h4 : hi < 2 ^ 62)
    (q : R (Itr lo (hi - lo).toNat) H) : wpAny (model X.prog X.w) X.A (pyIter (.ref s.heap.objs.size)) (PIE X pins σ tg R) E { s with heap := s.heap.push { cls := .type "range", data := .fields #[.int lo t, .int hi u, .int 1 v] }, toks := tk } := by
  refine wpAny_pyIter_range (IsRange.new ..) (small_one h1 h2 h3 h4) ?_
  have I1 : Inv X pins σ H { s with heap := s.heap.push { cls := .type "range", data := .fields #[.int lo t, .int hi u, .int 1 v] }, toks := tk } := I.kept fun b o e => Heap.get?_push_of_some _ e
  refine ⟨(s.heap.push { cls := .type "range", data := .fields #[.int lo t, .int hi u, .int 1 v] }).objs.size, [(s.heap.push { cls := .type "range", data := .fields #[.int lo t, .int hi u, .int 1 v] }).objs.size], _, _, H, rfl,
    I1.kept (t' := tk) fun b o e => Heap.get?_push_of_some _ e, turn_range _ lo (hi - lo).toNat, ?_, fun b hb => ?_, q⟩
  · have e1 : lo + ((0 : Nat) : Int) * 1 = lo := by simp
    have e2 : (((hi - lo).toNat : Nat) : Int) - ((0 : Nat) : Int) = Builtin.Range.rangeSize lo hi 1 := by rw [rangeSize_one]; split <;> omega
    show IsRangeIter _ _ (lo + ((0 : Nat) : Int) * 1) ((((hi - lo).toNat : Nat) : Int) - ((0 : Nat) : Int)) 1
    rw [e1, e2]
    exact Heap.get?_push_size _ rfl
  · have e : b = (s.heap.push { cls := .type "range", data := .fields #[.int lo t, .int hi u, .int 1 v] }).objs.size := by simpa using hb
    subst e
    exact I1.fpOk (Nat.le_refl _) (I1.hok.fresh (Nat.le_refl _))
def iRng1 (ta : TA) : TI := fun σ H R => ta σ H fun vs H1 => ∃ j : Int, vs = [.int j] ∧ -(2 ^ 62) ≤ j ∧ j < 2 ^ 62 ∧ R (Itr 0 j.toNat) H1
def iRng2 (ta : TA) : TI := fun σ H R => ta σ H fun vs H1 => ∃ i j : Int, vs = [.int i, .int j] ∧ (-(2 ^ 62) ≤ i ∧ i < 2 ^ 62 ∧ -(2 ^ 62) ≤ j ∧ j < 2 ^ 62) ∧ R (Itr i (j - i).toNat) H1
theorem pi_range1 {a : Expr} {ta : TA} {p pos : Pos} (hg : Gl X "range") (hm : X.mg "range" = none) (ha : PA X [a] ta) (hs : starEach [a] X.env = [(false, eval a X.env)] := by rfl) : PI X tg (.Call (.Name "range" p) [a] [] pos) (iRng1 ta) := by
  intro pins s σ H R I h
  refine Call_ (ld_blt I hg hm boot_range (PyProof.Rows.callWith_type1 (thn (ha pos pins s σ H _ I h) fun us s1 ⟨vs, H1, I1, r1, q1⟩ => ?_) hs rfl))
  obtain ⟨j, e, q1, q2, q⟩ := q1
  subst e
  cases r1 with
  | cons r rr =>
    cases rr
    obtain ⟨t, rfl⟩ := r
    exact call_range_1 (range_it I1 (by omega) (by omega) q1 q2 (by simpa using q))
theorem pi_range2 {a b : Expr} {ta : TA} {p pos : Pos} (hg : Gl X "range") (hm : X.mg "range" = none) (ha : PA X [a, b] ta) (hs : starEach [a, b] X.env = [(false, eval a X.env), (false, eval b X.env)] := by rfl) (hs2 : starEach [b] X.env = [(false, eval b X.env)] := by rfl) :
    PI X tg (.Call (.Name "range" p) [a, b] [] pos) (iRng2 ta) := by
  intro pins s σ H R I h
  refine Call_ (ld_blt I hg hm boot_range (PyProof.Rows.callWith_type1 (thn (ha pos pins s σ H _ I h) fun us s1 ⟨vs, H1, I1, r1, q1⟩ => ?_) (by rw [hs, hs2]) (by rw [hs2]; rfl)))
  obtain ⟨i, j, e, ⟨q1, q2, q3, q4⟩, q⟩ := q1
  subst e
  cases r1 with
  | cons r rr =>
    cases rr with
    | cons r' rr =>
      cases rr
      obtain ⟨t, rfl⟩ := r
      obtain ⟨t', rfl⟩ := r'
      exact call_range_2 (range_it I1 q1 q2 q3 q4 q)

def tFor (wi : TI) (g : TG) (tb : TS) : TS := fun D σ H => wi σ H fun J H1 => ∃ W : Nat → Nat → St → Hp → Prop, (∃ m, W 0 m σ H1) ∧ ∀ i m σ H, W i m σ H →
  (J.stop i H ∧ D.nx σ H) ∨ (J.go i H ∧ ∃ N : St → Hp → Prop, (∀ σ' H', N σ' H' → ∃ m', m' < m ∧ W (i + 1) m' σ' H') ∧ ∀ x H', J.yld i H x H' → g x σ H' fun σ2 H2 => tb { D with nx := N, ct := N, bk := D.nx } σ2 H2)
def pinsAt (fp : List Addr) (h : Heap) : List (Addr × Obj) := fp.filterMap fun b => (h.get? b).map fun o => (b, o)
theorem mem_pinsAt {fp : List Addr} {h : Heap} {b : Addr} {o : Obj} (hb : b ∈ fp) (e : h.get? b = some o) : (b, o) ∈ pinsAt fp h := List.mem_filterMap.mpr ⟨b, hb, by rw [e]; rfl⟩
theorem of_pinsAt {fp : List Addr} {h : Heap} {p : Addr × Obj} (hp : p ∈ pinsAt fp h) : p.1 ∈ fp ∧ h.get? p.1 = some p.2 := by
  obtain ⟨b, hb, e⟩ := List.mem_filterMap.mp hp
  cases q : h.get? b with
  | none => rw [q] at e; cases e
  | some o =>
    rw [q] at e
    have e' : (b, o) = p := Option.some.inj e
    subst e'
    exact ⟨hb, q⟩
theorem Inv.pinned {pins : List (Addr × Obj)} {σ : St} {H : Hp} {s : Shared} {fp : List Addr} (I : Inv X pins σ H s) (hf : ∀ b ∈ fp, FpOk X pins H b) (ho : ∀ b ∈ fp, ∃ o, s.heap.get? b = some o ∧ ∀ v, o.data ≠ .cell v) : Inv X (pins ++ pinsAt fp s.heap) σ H s :=
  I.pins_of fun p hp => (List.mem_append.mp hp).elim (fun z => I.pin p (List.mem_append_right _ z)) fun z => by
    obtain ⟨hb, e⟩ := of_pinsAt z
    obtain ⟨f0, f1, f2, _⟩ := hf p.1 hb
    obtain ⟨o, e', d⟩ := ho p.1 hb
    rw [e] at e'; cases e'
    exact ⟨e, f0, f1, f2, d⟩
theorem Inv.unpinned {pins pl : List (Addr × Obj)} {σ : St} {H : Hp} {s : Shared} (I : Inv X (pins ++ pl) σ H s) : Inv X pins σ H s := I.pins_of fun p hp => I.pin p (List.mem_append_right _ (List.mem_append_left _ hp))
theorem ps_for {iter : Expr} {body : List Stmt} {wi : TI} {g : TG} {tb : TS} {pos : Pos} (hp : PassesOwn (model X.prog X.w) X.A X.env X.xe) (hc : X.calm = true) (hi : PI X tg iter wi) (hg : PG X tg g) (hb : PSs X body tb)
    (hs : ∀ x, foldedSetIterable iter X.env x = pure x := by intro _; rfl) : PS X (.For tg iter body [] pos) (tFor wi g tb) := by
  intro pins s σ H D I h
  refine wpAny_For (thn (hi pins s σ H _ I h) fun v s1 h1 => thn h1 fun itv s2 h2 => ?_) hs
  obtain ⟨it, fp, tn, J, H2, e, I2, T, st2, f2, W, ⟨m0, w0⟩, turn⟩ := h2
  subst e
  -- what stays true of the iterator's objects through the loop
  have stat : ∀ {H' : Hp}, (∀ b ∈ fp, H' b = none) → ∀ b ∈ fp, FpOk X pins H' b := fun hn b hb => ⟨hn b hb, (f2 b hb).2⟩
  refine codeAny_forLoop_any (fun n s' => ∃ i σ' H', Inv X pins σ' H' s' ∧ tn i s'.heap ∧ (∀ b ∈ fp, H' b = none) ∧ W i n σ' H') ?_ m0 ⟨0, σ, H2, I2, st2, fun b hb => (f2 b hb).1, w0⟩
  rintro n s3 ⟨i, σ3, H3, I3, st3, fr3, w3⟩
  rcases turn i n σ3 H3 w3 with ⟨stop, qn⟩ | ⟨go, N, hN, step⟩
  · refine wpAny_passesOwn hp (thn (T.done X rfl rfl rfl hc i pins s3 σ3 H3 X.xe I3 (stat fr3) st3 stop) fun r s4 ⟨hr, I4⟩ => ?_)
    subst hr
    exact wpAny_execs_nil ⟨σ3, H3, I4, qn⟩
  · refine wpAny_passesOwn hp (thn (T.item X rfl rfl rfl hc i pins s3 σ3 H3 X.xe I3 (stat fr3) st3 go) fun r s4 ⟨u, hr, h4⟩ => ?_)
    subst hr
    refine wpAny_passesOwn hp (thn h4 fun _ s5 ⟨x, H5, I5, r5, y5, st5, fr5⟩ => ?_)
    have I5' := I5.pinned (stat fr5) (T.obj _ _ st5)
    refine wpAny_passesOwn hp (thn (hg _ s5 σ3 H5 x u _ I5' r5 (step x H5 y5)) fun _ s6 ⟨σ6, H6, I6, q6⟩ => ?_)
    refine wpAny_passesOwn hp (thn (hb _ s6 σ6 H6 _ I6 q6) fun f s7 q7 => ?_)
    have again : ∀ {σ7 : St} {H7 : Hp}, Inv X (pins ++ pinsAt fp s5.heap) σ7 H7 s7 → N σ7 H7 → ∃ m, m < n ∧ ∃ i σ' H', Inv X pins σ' H' s7 ∧ tn i s7.heap ∧ (∀ b ∈ fp, H' b = none) ∧ W i m σ' H' := fun {σ7 H7} I7 n7 => by
      obtain ⟨m', hm, w7⟩ := hN σ7 H7 n7
      refine ⟨m', hm, i + 1, σ7, H7, I7.unpinned, T.keep _ _ _ st5 fun b hb o e => (I7.pin (b, o) (List.mem_append_right _ (List.mem_append_right _ (mem_pinsAt hb e)))).1, fun b hb => ?_, w7⟩
      obtain ⟨o, e, d⟩ := T.obj _ _ st5 b hb
      exact (I7.pin (b, o) (List.mem_append_right _ (List.mem_append_right _ (mem_pinsAt hb e)))).2.1
    cases f with
    | next => obtain ⟨σ7, H7, I7, n7⟩ := q7; exact again I7 n7
    | cont => obtain ⟨σ7, H7, I7, n7⟩ := q7; exact again I7 n7
    | brk => obtain ⟨σ7, H7, I7, q7⟩ := q7; exact ⟨σ7, H7, I7.unpinned, q7⟩
    | ret v => obtain ⟨x7, σ7, H7, I7, r7, q7⟩ := q7; exact ⟨x7, σ7, H7, I7.unpinned, r7, q7⟩
end

end L2

namespace L2
open PySem PySem.Spec PyProof.Rows

abbrev R2 := V → V → Hp → VK → Prop
def OpR (X : Cx) (f : Value → Value → Sem Value) (r : R2) : Prop :=
  ∀ (pins : List (Addr × Obj)) (s : Shared) (σ : St) (H : Hp) (x y : V) (v u : Value) (Q : VK), Inv X pins σ H s → RelV x v → RelV y u → r x y H Q →
    wpAny (model X.prog X.w) X.A (f v u) (EP X pins σ Q) X.xe s
def UnR (X : Cx) (f : Value → Sem Value) (r : V → Hp → VK → Prop) : Prop :=
  ∀ (pins : List (Addr × Obj)) (s : Shared) (σ : St) (H : Hp) (x : V) (v : Value) (Q : VK), Inv X pins σ H s → RelV x v → r x H Q →
    wpAny (model X.prog X.w) X.A (f v) (EP X pins σ Q) X.xe s
def CallR (X : Cx) (f : Value) (r : List V → Hp → VK → Prop) : Prop :=
  ∀ (pins : List (Addr × Obj)) (s : Shared) (σ : St) (H : Hp) (xs : List V) (us : List Value) (Q : VK), Inv X pins σ H s → Vals xs us → r xs H Q →
    wpAny (model X.prog X.w) X.A (call f us) (EP X pins σ Q) X.xe s
def TruR (X : Cx) (r : V → Hp → (Bool → Hp → Prop) → Prop) : Prop :=
  ∀ (pins : List (Addr × Obj)) (s : Shared) (σ : St) (H : Hp) (x : V) (v : Value) (Q : Bool → Hp → Prop), Inv X pins σ H s → RelV x v → r x H Q →
    wpAny (model X.prog X.w) X.A (truthy v) (TP X pins σ Q) X.xe s

def tOp (r : R2) (ta tb : TE) : TE := fun σ H Q => ta σ H fun x H1 => tb σ H1 fun y H2 => r x y H2 Q
def tUn (r : V → Hp → VK → Prop) (ta : TE) : TE := fun σ H Q => ta σ H fun x H1 => r x H1 Q
def rI (C : Int → Int → Prop) (g : Int → Int → V) : R2 := fun x y H Q => ∃ i j, x = .int i ∧ y = .int j ∧ C i j ∧ Q (g i j) H
def rI0 (g : Int → Int → V) : R2 := fun x y H Q => ∃ i j, x = .int i ∧ y = .int j ∧ Q (g i j) H
def rU (g : Int → V) : V → Hp → VK → Prop := fun x H Q => ∃ i, x = .int i ∧ Q (g i) H

section
variable {X : Cx} {a b c : Expr} {ta tb tc : TE} {pos : Pos}

theorem binT (ha : PE X a ta) (hb : PE X b tb) {pins : List (Addr × Obj)} {s : Shared} {σ : St} {H : Hp} {R : V → V → Hp → Prop} (I : Inv X pins σ H s)
    (h : ta σ H fun x H1 => tb σ H1 fun y H2 => R x y H2) {Q : Value → Shared → Prop} {f : Value → Value → Sem Value}
    (hf : ∀ v u s2 x y H2, Inv X pins σ H2 s2 → RelV x v → RelV y u → R x y H2 → wpAny (model X.prog X.w) X.A (f v u) Q X.xe s2) :
    wpAny (model X.prog X.w) X.A (eval a X.env) (fun v s₁ => wpAny (model X.prog X.w) X.A (eval b X.env) (fun u s₂ => wpAny (model X.prog X.w) X.A (f v u) Q X.xe s₂) X.xe s₁) X.xe s := by
  refine thn (ha pins s σ H _ I h) fun v s1 ⟨x, H1, I1, r1, q1⟩ => ?_
  refine thn (hb pins s1 σ H1 _ I1 q1) fun u s2 ⟨y, H2, I2, r2, q2⟩ => ?_
  exact hf v u s2 x y H2 I2 r1 r2 q2

theorem pe_op {op : Operator} {r : R2} (ho : OpR X (binaryOp op) r) (ha : PE X a ta) (hb : PE X b tb) : PE X (.BinOp a op b pos) (tOp r ta tb) := by
  intro pins s σ H Q I h
  exact wpAny_BinOp (binT ha hb I h fun v u s2 x y H2 I2 rx ry q => ho pins s2 σ H2 x y v u Q I2 rx ry q)
theorem pe_un {op : UnaryOp} {r : V → Hp → VK → Prop} (ho : UnR X (unaryOp op) r) (ha : PE X a ta) : PE X (.UnaryOp op a pos) (tUn r ta) := by
  intro pins s σ H Q I h
  exact UnaryOp_ (thn (ha pins s σ H _ I h) fun v s1 ⟨x, H1, I1, r1, q1⟩ => ho pins s1 σ H1 x v Q I1 r1 q1)
theorem opI {f : Value → Value → Sem Value} {C : Int → Int → Prop} {g : Int → Int → Int}
    (rule : ∀ (i j : Int) (t u : Tok) (s : Shared) (Q : Value → Shared → Prop) (E : Value → Shared → Prop), C i j → Q (.int (g i j) s.toks) { s with toks := s.toks + 1 } → wpAny (model X.prog X.w) X.A (f (.int i t) (.int j u)) Q E s) :
    OpR X f (rI C fun i j => .int (g i j)) := by
  intro pins s σ H x y v u Q I rx ry h
  obtain ⟨i, j, rfl, rfl, hc, q⟩ := h
  obtain ⟨t, rfl⟩ := rx
  obtain ⟨t', rfl⟩ := ry
  exact rule i j t t' s _ _ hc ⟨.int (g i j), H, I.tok _, ⟨_, rfl⟩, q⟩
theorem opI0 {f : Value → Value → Sem Value} {g : Int → Int → Int}
    (rule : ∀ (i j : Int) (t u : Tok) (s : Shared) (Q : Value → Shared → Prop) (E : Value → Shared → Prop), Q (.int (g i j) s.toks) { s with toks := s.toks + 1 } → wpAny (model X.prog X.w) X.A (f (.int i t) (.int j u)) Q E s) :
    OpR X f (rI0 fun i j => .int (g i j)) := by
  intro pins s σ H x y v u Q I rx ry h
  obtain ⟨i, j, rfl, rfl, q⟩ := h
  obtain ⟨t, rfl⟩ := rx
  obtain ⟨t', rfl⟩ := ry
  exact rule i j t t' s _ _ ⟨.int (g i j), H, I.tok _, ⟨_, rfl⟩, q⟩
theorem opB0 {f : Value → Value → Sem Value} {g : Int → Int → Bool}
    (rule : ∀ (i j : Int) (t u : Tok) (s : Shared) (Q : Value → Shared → Prop) (E : Value → Shared → Prop), Q (.bool (g i j)) s → wpAny (model X.prog X.w) X.A (f (.int i t) (.int j u)) Q E s) :
    OpR X f (rI0 fun i j => .bl (g i j)) := by
  intro pins s σ H x y v u Q I rx ry h
  obtain ⟨i, j, rfl, rfl, q⟩ := h
  obtain ⟨t, rfl⟩ := rx
  obtain ⟨t', rfl⟩ := ry
  exact rule i j t t' s _ _ ⟨.bl (g i j), H, I, rfl, q⟩

def CDiv (i j : Int) : Prop := 0 < j ∧ j < 1073741824
def CPow (i j : Int) : Prop := 0 ≤ j ∧ j ≤ 1000000 ∧ i.natAbs < 2 ^ 64
def CMul (i j : Int) : Prop := (-(2 ^ 64) < i ∧ i < 2 ^ 64) ∨ (-(2 ^ 64) < j ∧ j < 2 ^ 64)
theorem CMul.ok {i j : Int} (h : CMul i j) : IntMulOk i j := by
  rcases h with ⟨h1, h2⟩ | ⟨h1, h2⟩
  · exact .of_left (intBits_le_64 h1 h2)
  · exact .of_right (intBits_le_64 h1 h2)
theorem two_pow_nn (k : Nat) : (0 : Int) ≤ 2 ^ k := by
  rw [two_pow_cast]
  exact Int.natCast_nonneg _

theorem op_add : OpR X (binaryOp .Add) (rI0 fun i j => .int (i + j)) := opI0 fun _ _ _ _ _ _ _ q => add_int q
theorem op_sub : OpR X (binaryOp .Sub) (rI0 fun i j => .int (i - j)) := opI0 fun _ _ _ _ _ _ _ q => sub_int q
theorem op_mul : OpR X (binaryOp .Mult) (rI CMul fun i j => .int (i * j)) := opI fun _ _ _ _ _ _ _ hc q => mul_int q hc.ok
theorem op_fdiv : OpR X (binaryOp .FloorDiv) (rI CDiv fun i j => .int (i / j)) := opI fun i j _ _ _ _ _ hc q => by
  have h1 : (0 : Int) < j := hc.1
  have h2 : j < 1073741824 := hc.2
  exact floordiv_int (by omega) (by rw [Int.fdiv_eq_ediv_of_nonneg i (by omega)]; exact q) (.inl (PyProof.noPylong_small (by omega)))
theorem op_mod : OpR X (binaryOp .Mod) (rI (fun _ j => 0 < j) fun i j => .int (i % j)) := opI fun i j _ _ _ _ _ hc q => by
  have h1 : (0 : Int) < j := hc
  exact mod_int' (by omega) (by rw [Int.fmod_eq_emod_of_nonneg i (by omega)]; exact q)
theorem op_pow : OpR X (binaryOp .Pow) (rI CPow fun i j => .int (i ^ j.toNat)) := opI fun _ _ _ _ _ _ _ hc q => pow_int_small hc.1 hc.2.1 hc.2.2 q
theorem op_shr : OpR X (binaryOp .RShift) (rI (fun _ j => 0 ≤ j) fun i j => .int (i / 2 ^ j.toNat)) := opI fun i j _ _ _ _ _ hc q =>
  rshift_int hc (by rw [Int.fdiv_eq_ediv_of_nonneg i (two_pow_nn _)]; exact q)
theorem unI {f : Value → Sem Value} {g : Int → Int}
    (rule : ∀ (i : Int) (t : Tok) (s : Shared) (Q : Value → Shared → Prop) (E : Value → Shared → Prop), Q (.int (g i) s.toks) { s with toks := s.toks + 1 } → wpAny (model X.prog X.w) X.A (f (.int i t)) Q E s) :
    UnR X f (rU fun i => .int (g i)) := by
  intro pins s σ H x v Q I rx h
  obtain ⟨i, rfl, q⟩ := h
  obtain ⟨t, rfl⟩ := rx
  exact rule i t s _ _ ⟨.int (g i), H, I.tok _, ⟨_, rfl⟩, q⟩
theorem un_neg : UnR X (unaryOp .USub) (rU fun i => .int (-i)) := unI fun _ _ _ _ _ q => neg_int q
end

def scal : V → V → Bool
  | .non, .non => true | .non, .int _ => true | .int _, .non => true | .non, .bl _ => true | .bl _, .non => true | .non, .str _ => true | .str _, .non => true
  | .int _, .int _ => true | .bl _, .bl _ => true | .str _, .str _ => true | .byt _, .byt _ => true
  | .int _, .str _ => true | .str _, .int _ => true | .bl _, .str _ => true | .str _, .bl _ => true
  | _, _ => false
def rEq : R2 := fun x y H Q => scal x y = true ∧ Q (.bl (decide (x = y))) H
def rNe : R2 := fun x y H Q => scal x y = true ∧ Q (.bl (!decide (x = y))) H

theorem dec_int {i j : Int} : decide (V.int i = V.int j) = (i == j) := by
  rw [Bool.eq_iff_iff]
  simp
theorem dec_bl {i j : Bool} : decide (V.bl i = V.bl j) = (i == j) := by
  rw [Bool.eq_iff_iff]
  simp
theorem dec_str {i j : Str} : decide (V.str i = V.str j) = (i == j) := by
  rw [Bool.eq_iff_iff]
  simp
theorem dec_byt {i j : Array UInt8} : decide (V.byt i = V.byt j) = (i.toList == j.toList) := by
  rw [Bool.eq_iff_iff]
  cases i
  cases j
  simp

section
variable {X : Cx} {a b c : Expr} {ta tb tc : TE} {pos : Pos}
theorem fin_bl {pins : List (Addr × Obj)} {σ : St} {H : Hp} {s : Shared} {Q : VK} {k k' : Bool} (I : Inv X pins σ H s) (q : Q (.bl k) H) (e : k = k') : EP X pins σ Q (.bool k') s := by
  subst e
  exact ⟨.bl k, H, I, rfl, q⟩
theorem op_eq : OpR X (compareOp .Eq) rEq := by
  intro pins s σ H x y v u Q I rx ry h
  obtain ⟨hs, q⟩ := h
  cases x with
  | non =>
    cases rx
    cases y with
    | non => cases ry; exact PySem.EqNone.eq_none_none (fin_bl I q (by simp))
    | bl j => cases ry; exact PySem.EqNone.eq_none_bool (fin_bl I q (by simp))
    | int j => obtain ⟨t', rfl⟩ := ry; exact PySem.EqNone.eq_none_int (fin_bl I q (by simp))
    | str j => obtain ⟨t', rfl⟩ := ry; exact PySem.EqNone.eq_none_str (fin_bl I q (by simp))
    | _ => exact absurd (show false = true from hs) Bool.false_ne_true
  | bl i =>
    cases rx
    cases y with
    | non => cases ry; exact PySem.EqNone.eq_bool_none (fin_bl I q (by simp))
    | bl j => cases ry; exact eq_bool (fin_bl I q dec_bl)
    | str j => obtain ⟨t', rfl⟩ := ry; exact PySem.EqMixed.eq_bool_str (fin_bl I q (by simp))
    | _ => exact absurd (show false = true from hs) Bool.false_ne_true
  | int i =>
    obtain ⟨t, rfl⟩ := rx
    cases y with
    | non => cases ry; exact PySem.EqNone.eq_int_none (fin_bl I q (by simp))
    | int j => obtain ⟨t', rfl⟩ := ry; exact eq_int (fin_bl I q dec_int)
    | str j => obtain ⟨t', rfl⟩ := ry; exact PySem.EqMixed.eq_int_str (fin_bl I q (by simp))
    | _ => exact absurd (show false = true from hs) Bool.false_ne_true
  | str i =>
    obtain ⟨t, rfl⟩ := rx
    cases y with
    | non => cases ry; exact PySem.EqNone.eq_str_none (fin_bl I q (by simp))
    | bl j => cases ry; exact PySem.EqMixed.eq_str_bool (fin_bl I q (by simp))
    | int j => obtain ⟨t', rfl⟩ := ry; exact PySem.EqMixed.eq_str_int (fin_bl I q (by simp))
    | str j => obtain ⟨t', rfl⟩ := ry; exact eq_str (fin_bl I q dec_str)
    | _ => exact absurd (show false = true from hs) Bool.false_ne_true
  | byt i =>
    obtain ⟨t, rfl⟩ := rx
    cases y with
    | byt j => obtain ⟨t', rfl⟩ := ry; exact PySem.W.eq_bytes (fin_bl I q dec_byt)
    | _ => exact absurd (show false = true from hs) Bool.false_ne_true
  | _ => cases y <;> exact absurd (show false = true from hs) Bool.false_ne_true
theorem op_ne : OpR X (compareOp .NotEq) rNe := by
  intro pins s σ H x y v u Q I rx ry h
  obtain ⟨hs, q⟩ := h
  cases x with
  | non =>
    cases rx
    cases y with
    | non => cases ry; exact PySem.EqNone.ne_none_none (fin_bl I q (by simp))
    | bl j => cases ry; exact PySem.EqNone.ne_none_bool (fin_bl I q (by simp))
    | int j => obtain ⟨t', rfl⟩ := ry; exact PySem.EqNone.ne_none_int (fin_bl I q (by simp))
    | str j => obtain ⟨t', rfl⟩ := ry; exact PySem.EqNone.ne_none_str (fin_bl I q (by simp))
    | _ => exact absurd (show false = true from hs) Bool.false_ne_true
  | bl i =>
    cases rx
    cases y with
    | non => cases ry; exact PySem.EqNone.ne_bool_none (fin_bl I q (by simp))
    | bl j => cases ry; exact ne_bool (fin_bl I q (congrArg not dec_bl))
    | str j => obtain ⟨t', rfl⟩ := ry; exact PySem.EqMixed.ne_bool_str (fin_bl I q (by simp))
    | _ => exact absurd (show false = true from hs) Bool.false_ne_true
  | int i =>
    obtain ⟨t, rfl⟩ := rx
    cases y with
    | non => cases ry; exact PySem.EqNone.ne_int_none (fin_bl I q (by simp))
    | int j => obtain ⟨t', rfl⟩ := ry; exact ne_int (fin_bl I q (congrArg not dec_int))
    | str j => obtain ⟨t', rfl⟩ := ry; exact PySem.EqMixed.ne_int_str (fin_bl I q (by simp))
    | _ => exact absurd (show false = true from hs) Bool.false_ne_true
  | str i =>
    obtain ⟨t, rfl⟩ := rx
    cases y with
    | non => cases ry; exact PySem.EqNone.ne_str_none (fin_bl I q (by simp))
    | bl j => cases ry; exact PySem.EqMixed.ne_str_bool (fin_bl I q (by simp))
    | int j => obtain ⟨t', rfl⟩ := ry; exact PySem.EqMixed.ne_str_int (fin_bl I q (by simp))
    | str j => obtain ⟨t', rfl⟩ := ry; exact ne_str (fin_bl I q (congrArg not dec_str))
    | _ => exact absurd (show false = true from hs) Bool.false_ne_true
  | byt i =>
    obtain ⟨t, rfl⟩ := rx
    cases y with
    | byt j => obtain ⟨t', rfl⟩ := ry; exact PySem.W.ne_bytes (fin_bl I q (congrArg not dec_byt))
    | _ => exact absurd (show false = true from hs) Bool.false_ne_true
  | _ => cases y <;> exact absurd (show false = true from hs) Bool.false_ne_true

theorem op_lt : OpR X (compareOp .Lt) (rI0 fun i j => .bl (decide (i < j))) := opB0 fun _ _ _ _ _ _ _ q => lt_int q
theorem op_le : OpR X (compareOp .LtE) (rI0 fun i j => .bl (decide (i ≤ j))) := opB0 fun _ _ _ _ _ _ _ q => le_int q
theorem op_gt : OpR X (compareOp .Gt) (rI0 fun i j => .bl (decide (j < i))) := opB0 fun _ _ _ _ _ _ _ q => gt_int q
theorem op_ge : OpR X (compareOp .GtE) (rI0 fun i j => .bl (decide (j ≤ i))) := opB0 fun _ _ _ _ _ _ _ q => ge_int q
theorem OpR.or {f : Value → Value → Sem Value} {r r' : R2} (h : OpR X f r) (h' : OpR X f r') : OpR X f (fun x y H Q => r x y H Q ∨ r' x y H Q) := by
  intro pins s σ H x y v u Q I rx ry q
  rcases q with q | q
  · exact h pins s σ H x y v u Q I rx ry q
  · exact h' pins s σ H x y v u Q I rx ry q

theorem nomark (b : Expr) {op : CmpOp} (h : op ≠ .In := by decide) (h2 : op ≠ .NotIn := by decide) : behindInMarks op b = false := by
  have e1 : (op == CmpOp.In) = false := by cases op <;> first | rfl | exact absurd rfl h
  have e2 : (op == CmpOp.NotIn) = false := by cases op <;> first | rfl | exact absurd rfl h2
  cases b <;> simp [behindInMarks, e1, e2]
theorem pe_cmpR {op : CmpOp} {r : R2} (ho : OpR X (compareOp op) r) (ha : PE X a ta) (hb : PE X b tb) (hm : behindInMarks op b = false) : PE X (.Compare a [op] [b] pos) (tOp r ta tb) := by
  intro pins s σ H Q I h
  exact wpAny_Compare1 (binT ha hb I h fun v u s2 x y H2 I2 rx ry q => ho pins s2 σ H2 x y v u Q I2 rx ry q) hm
def tTest (t : TE) : TT := fun σ H Q => t σ H fun x H' => ∃ k, x = .bl k ∧ Q k H'
theorem pt_cmpR {op : CmpOp} {r : R2} (ho : OpR X (compareOp op) r) (ha : PE X a ta) (hb : PE X b tb) (hm : behindInMarks op b = false) : PT X (.Compare a [op] [b] pos) (tTest (tOp r ta tb)) := by
  intro pins s σ H Q I h
  refine wpAny_isTrue_Compare1 (thn (ha pins s σ H _ I h) fun v s1 ⟨x, H1, I1, r1, q1⟩ => thn (hb pins s1 σ H1 _ I1 q1) fun u s2 ⟨y, H2, I2, r2, q2⟩ =>
    thn (ho pins s2 σ H2 x y v u _ I2 r1 r2 q2) fun c s3 ⟨z, H3, I3, r3, k, e, q3⟩ => ?_) hm
  subst e
  cases r3
  exact wpAny_truthy_bool ⟨H3, I3, q3⟩
def TruV (K : PySem.W.Frag) (x : V) (H : Hp) (k : Bool) : Prop :=
  match x with
  | .non => k = false
  | .bl b => k = b
  | .int i => k = (i != 0)
  | .str y => y.length ≤ sizeLine ∧ k = ((y.length : Int) != 0)
  | .byt y => y.size ≤ sizeLine ∧ k = ((y.size : Int) != 0)
  | .ref p => (∃ xs, SqL K H p xs ∧ k = !xs.isEmpty) ∨ (∃ xs, SqT K H p xs ∧ k = !xs.isEmpty) ∨ ∃ kvs, H p = some (.dK kvs) ∧ k = !kvs.isEmpty
  | _ => False
theorem isEmpty_kv {κ : Type} {kvs : List (κ × V)} {vs : List (κ × Value)} (r : KV kvs vs) : (!vs.isEmpty) = !kvs.isEmpty := by
  cases r <;> rfl
theorem isEmpty_of {xs : List V} {its : List Value} (r : Vals xs its) : (!its.toArray.isEmpty) = !xs.isEmpty := by
  cases r <;> simp
theorem line63 : (sizeLine : Nat) < 2 ^ 63 := by rw [sizeLine_eq]; decide
theorem tru_ok : TruR X (fun x H Q => ∃ k, TruV X.K x H k ∧ Q k H) := by
  intro pins s σ H x v Q I rx h
  obtain ⟨k, e, q⟩ := h
  have hl := line63
  have hs : sizeLine = 16777216 := sizeLine_eq
  cases x with
  | non =>
    cases rx
    have e' : k = false := e
    subst e'
    exact truthy_none ⟨H, I, q⟩
  | bl b =>
    cases rx
    have e' : k = b := e
    subst e'
    exact wpAny_truthy_bool ⟨H, I, q⟩
  | int i =>
    obtain ⟨t, rfl⟩ := rx
    have e' : k = (i != 0) := e
    subst e'
    exact PySem.P.truthy_int ⟨H, I, q⟩
  | str y =>
    obtain ⟨t, rfl⟩ := rx
    obtain ⟨hy, e'⟩ : y.length ≤ sizeLine ∧ k = ((y.length : Int) != 0) := e
    subst e'
    exact PySem.P.truthy_str (by omega) ⟨H, I.tok _, q⟩
  | byt y =>
    obtain ⟨t, rfl⟩ := rx
    obtain ⟨hy, e'⟩ : y.size ≤ sizeLine ∧ k = ((y.size : Int) != 0) := e
    subst e'
    exact PySem.W.truthy_bytes (by omega) ⟨H, I.tok _, q⟩
  | ref p =>
    cases rx
    have e' : (∃ xs, SqL X.K H p xs ∧ k = !xs.isEmpty) ∨ (∃ xs, SqT X.K H p xs ∧ k = !xs.isEmpty) ∨ ∃ kvs, H p = some (.dK kvs) ∧ k = !kvs.isEmpty := e
    rcases e' with ⟨xs, hx, e'⟩ | ⟨xs, hx, e'⟩ | ⟨kvs, hx, e'⟩
    · subst e'
      obtain ⟨its, r, pl, hz⟩ := I.list hx
      have hlen := r.length
      exact wpAny_truthy_list pl.isList (by simp only [List.size_toArray]; omega) ⟨H, I.tok _, by rw [isEmpty_of r]; exact q⟩
    · subst e'
      obtain ⟨its, r, pl, hz⟩ := I.tuple hx
      have hlen := r.length
      exact truthy_tuple pl (by simp only [List.size_toArray]; omega) ⟨H, I.tok _, by rw [isEmpty_of r]; exact q⟩
    · subst e'
      obtain ⟨hz, hS, vs, r, m⟩ : kvs.length ≤ sizeLine ∧ (p == sysModules) = false ∧ ∃ vs, KV kvs vs ∧ s.heap.DictOf (mixKind X.prog X.w) p vs := I.hok p _ hx
      have hlen : kvs.length = vs.length := Paired.length r
      exact wpAny_truthy_dict hS m (by omega) ⟨H, I.tok _, by rw [isEmpty_kv r]; exact q⟩
  | _ => exact (show False from e).elim
theorem pt_truth (ha : PE X a ta) (he : ∀ whole, isTrue a X.env whole = (do let v ← whole; standAt a.pos; holding [v] (truthy v))) :
    PT X a (fun σ H Q => ta σ H fun x H' => ∃ k, TruV X.K x H' k ∧ Q k H') := by
  intro pins s σ H Q I h
  exact isTrue_plain (thn (ha pins s σ H _ I h) fun v s1 ⟨x, H1, I1, r1, q1⟩ => tru_ok pins s1 σ H1 x v Q I1 r1 q1) (he _)

theorem vals1 {x : V} {us : List Value} (r : Vals [x] us) : ∃ u, us = [u] ∧ RelV x u := by
  cases r with
  | cons r1 r2 => cases r2; exact ⟨_, rfl, r1⟩
theorem vals2 {x y : V} {us : List Value} (r : Vals [x, y] us) : ∃ u w', us = [u, w'] ∧ RelV x u ∧ RelV y w' := by
  cases r with
  | cons r1 r2 =>
    cases r2 with
    | cons r3 r4 => cases r4; exact ⟨_, _, rfl, r1, r3⟩
theorem call_max2 (hc : X.calm = true) : CallR X (.builtin "max") (fun xs H Q => ∃ i j, xs = [.int i, .int j] ∧ Q (.int (if j > i then j else i)) H) := by
  intro pins s σ H xs us Q I r h
  obtain ⟨i, j, rfl, q⟩ := h
  obtain ⟨u, w', rfl, ⟨t, rfl⟩, ⟨t', rfl⟩⟩ := vals2 r
  refine max_two_ints (I.ok.hd hc) fun h' tk k => ⟨_, H, I.kept k, ?_, q⟩
  by_cases hj : j > i
  · rw [if_pos hj, if_pos hj]; exact ⟨_, rfl⟩
  · rw [if_neg hj, if_neg hj]; exact ⟨_, rfl⟩
theorem call_min2 (hc : X.calm = true) : CallR X (.builtin "min") (fun xs H Q => ∃ i j, xs = [.int i, .int j] ∧ Q (.int (if j < i then j else i)) H) := by
  intro pins s σ H xs us Q I r h
  obtain ⟨i, j, rfl, q⟩ := h
  obtain ⟨u, w', rfl, ⟨t, rfl⟩, ⟨t', rfl⟩⟩ := vals2 r
  refine min_two_ints (I.ok.hd hc) fun h' tk k => ⟨_, H, I.kept k, ?_, q⟩
  by_cases hj : j < i
  · rw [if_pos hj, if_pos hj]; exact ⟨_, rfl⟩
  · rw [if_neg hj, if_neg hj]; exact ⟨_, rfl⟩
end
end L2

namespace L2
open PySem PySem.Spec PyProof.Rows

structure ObjM (h : Heap) (x dx C : Addr) (mA : Str → Option Value) : Prop where
  obj : h.get? x = some (PySem.W.instObj C dx)
  ns : h.Ns1 dx mA
  ne : dx ≠ x

theorem lookIn_ns {h : Heap} {dx : Addr} {mA : Str → Option Value} (n : h.Ns1 dx mA) : ∃ od, h.get? dx = some od ∧ ∀ name, PySem.W.lookIn name od = some (mA name) := by
  obtain ⟨o, es, ep, ho, hd, hk, _, hm⟩ := n
  refine ⟨o, ho, fun name => ?_⟩
  have e := hm name
  unfold nsFind findBy at e
  rw [← Array.find?_toList] at e
  unfold PySem.W.lookIn
  rw [hd]
  dsimp only
  split
  · rename_i y q
    rw [q] at e
    exact congrArg some e
  · rename_i q
    rw [q] at e
    have a : es.toList.any (·.refKey) = false := by
      rw [List.any_eq_false]
      intro y hy
      obtain ⟨z, t, hkey⟩ := hk y (Array.mem_toList_iff.mp hy)
      simp [DictEntry.refKey, hkey]
    have a' : ¬ es.toList.any (·.refKey) = true := by rw [a]; exact Bool.false_ne_true
    rw [if_neg a']
    exact congrArg some e

theorem ObjM.look {h : Heap} {x dx C : Addr} {mA : Str → Option Value} (I : ObjM h x dx C mA) : ∃ od, PySem.W.InstAt h x (PySem.W.instObj C dx) C (some od) ∧ ∀ name, PySem.W.lookIn name od = some (mA name) :=
  let ⟨od, ho, hl⟩ := lookIn_ns I.ns
  ⟨od, ⟨I.obj, rfl, rfl, ho⟩, hl⟩

section
variable {prog : Program} {w : World} {A : Around} {E : Value → Shared → Prop} {s : Shared} {K : PySem.W.Frag} {x dx C f : Addr} {mA : Str → Option Value} {name : Str} {v : Value}

end

section
variable {P : Program} {w : World} {H H' : Hp} {h h' : Heap} {a C dx : Addr} {fs fs' : List (Str × V)}
theorem ins_get (hok : HOk P w H h) (e : H a = some (.ins C dx fs)) : ∃ mA, ObjM h a dx C mA ∧ (∀ f, RelO (fs.lookup f) (mA f)) ∧ PySem.Within mA (fs.map (·.1)) ∧ fs.length ≤ 1000 ∧ H dx = some (.own a) := by
  obtain ⟨d, z, ne, ob, mA, n, r, q⟩ := (show ObjOk P w H h a (.ins C dx fs) from hok a _ e)
  exact ⟨mA, ⟨ob, n, ne⟩, r, q, z, d⟩
end

structure Cls (K : PySem.W.Frag) (C : Addr) : Prop where
  pg : PySem.W.plainGet K C Str.empty = true
  hd : PySem.W.hasDictIn K C = true
  po : PySem.W.plainOver K C = true
  sa : PySem.W.findIn K (.ref C) "__setattr__" = some (some (.builtin "object.__setattr__"))
theorem Cls.get {K : PySem.W.Frag} {C : Addr} (c : Cls K C) (f : Str) : PySem.W.plainGet K C f = true := c.pg
structure Con (K : PySem.W.Frag) (C : Addr) (f : Str) (v : V) (u : Value) : Prop where
  at_ : PySem.W.findIn K (.ref C) f = some (some u)
  rel : RelV v u
  get : PySem.W.specialIn K u "__get__" = some none
  cp : PySem.W.copiedNames.contains f = false
structure Meth (K : PySem.W.Frag) (C : Addr) (m : Str) (f : Addr) : Prop where
  at_ : PySem.W.findIn K (.ref C) m = some (some (.ref f))
  fn : PySem.W.isFn K (.ref f) = true
  kp : PySem.W.keepIn K (.ref f) = true

section
variable {X : Cx} {pins : List (Addr × Obj)} {σ : St} {H : Hp} {s : Shared} {a C dx : Addr} {fs : List (Str × V)} {f : Str} {v : V} {A : Around} {E : Value → Shared → Prop}

end

section
variable {X : Cx} {o e value : Expr} {f : Str} {pos pos' tpos : Pos} {ta tv : TE}
end

section
variable {X : Cx} {pins : List (Addr × Obj)} {σ : St} {H : Hp} {s : Shared} {A : Around} {E : Value → Shared → Prop} {Q : Value → Shared → Prop} {c : Value} {b : Bool}
inductive TyOf (K : PySem.W.Frag) (H : Hp) : V → Value → Prop where
  | non : TyOf K H .non (.type "NoneType")
  | bl (x : Bool) : TyOf K H (.bl x) (.type "bool")
  | int (i : Int) : TyOf K H (.int i) (.type "int")
  | str (x : Str) : TyOf K H (.str x) (.type "str")
  | flt (x : UInt64) : TyOf K H (.flt x) (.type "float")
  | lst {a : Addr} {xs : List V} (e : H a = some (.lst xs)) : TyOf K H (.ref a) (.type "list")
  | frz {a : Addr} {o : Obj} {xs : List V} (e : H a = some (.frz o (.lst xs))) : TyOf K H (.ref a) (.type "list")
  | tup {a : Addr} {xs : List V} (e : H a = some (.tup xs)) : TyOf K H (.ref a) (.type "tuple")
  | dK {a : Addr} {kvs : List (Key × V)} (e : H a = some (.dK kvs)) : TyOf K H (.ref a) (.type "dict")
  | dT {a : Addr} {kvs : List (List Key × V)} (e : H a = some (.dT kvs)) : TyOf K H (.ref a) (.type "dict")
  | ins {a C dx : Addr} {fs : List (Str × V)} (e : H a = some (.ins C dx fs)) (cl : Cls K C) (ha : PySem.W.findIn K (.ref C) "__class__" = some (some (.builtin "object.__class__")))
      (hn : PySem.W.specialIn K (.builtin "object.__class__") "__get__" = some (some (.builtin "getset_descriptor.__get__"))) (htk : PySem.W.takesIn K (.builtin "object.__class__") = some true)
      (hm : PySem.W.mroIn K C (.type "object") = some true) : TyOf K H (.ref a) (.ref C)
theorem isinst_ok {x : V} {u t : Value} (I : Inv X pins σ H s) (rx : RelV x u) (ty : TyOf X.K H x t) (e : PySem.W.kitOne X.K t c = some b) (h : ∀ tk, Q (.bool b) { s with toks := tk }) :
    wpAny (model X.prog X.w) A (call (.builtin "isinstance") [u, c]) Q E s := by
  cases ty with
  | non => cases (show u = Value.none from rx); exact PySem.W.kia_one PySem.W.kitx_none I.kIn True.intro e (fun z => nomatch z) h
  | bl y => cases (show u = Value.bool y from rx); exact PySem.W.kia_one PySem.W.kitx_bool I.kIn True.intro e (fun z => nomatch z) h
  | int i => obtain ⟨t, q⟩ := (show ∃ t, u = Value.int i t from rx); cases q; exact PySem.W.kia_one PySem.W.kitx_int I.kIn True.intro e (fun z => nomatch z) h
  | str y => obtain ⟨t, q⟩ := (show ∃ t, u = Value.str y t from rx); cases q; exact PySem.W.kia_one PySem.W.kitx_str I.kIn True.intro e (fun z => nomatch z) h
  | flt y => obtain ⟨t, q⟩ := (show ∃ t, u = Value.float y t from rx); cases q; exact PySem.W.kia_one PySem.W.kitx_float I.kIn True.intro e (fun z => nomatch z) h
  | @lst a xs ea =>
    cases (show u = Value.ref a from rx)
    obtain ⟨_, _, n, _, h1⟩ := (show ObjOk X.prog X.w H s.heap a (.lst xs) from I.hok a _ ea)
    exact PySem.W.kia_one PySem.W.kitx_list I.kIn ⟨_, h1, rfl⟩ e (fun z => nomatch z) h
  | @frz a ob xs ea =>
    cases (show u = Value.ref a from rx)
    obtain ⟨_, _, _, n, _, h1⟩ := (show ObjOk X.prog X.w H s.heap a (.frz ob (.lst xs)) from I.hok a _ ea)
    exact PySem.W.kia_one PySem.W.kitx_list I.kIn ⟨_, h1, rfl⟩ e (fun z => nomatch z) h
  | @tup a xs ea =>
    cases (show u = Value.ref a from rx)
    obtain ⟨_, _, _, p⟩ := (show ObjOk X.prog X.w H s.heap a (.tup xs) from I.hok a _ ea)
    obtain ⟨o, h1, h2, _⟩ := p
    exact PySem.W.kia_one PySem.W.kitx_tuple I.kIn ⟨o, h1, h2⟩ e (fun z => nomatch z) h
  | @dK a kvs ea =>
    cases (show u = Value.ref a from rx)
    obtain ⟨_, _, vs, _, p⟩ := (show ObjOk X.prog X.w H s.heap a (.dK kvs) from I.hok a _ ea)
    obtain ⟨o, es, ep, h1, h2, _⟩ := p
    exact PySem.W.kia_one PySem.W.kitx_dict I.kIn ⟨o, h1, h2.1⟩ e (fun z => nomatch z) h
  | @dT a kvs ea =>
    cases (show u = Value.ref a from rx)
    obtain ⟨_, _, xs, _, o, es, ep, h1, h2, _⟩ := (show ObjOk X.prog X.w H s.heap a (.dT kvs) from I.hok a _ ea)
    exact PySem.W.kia_one PySem.W.kitx_dict I.kIn ⟨o, h1, h2.1⟩ e (fun z => nomatch z) h
  | @ins a C dx fs ea cl ha hn htk hm =>
    cases (show u = Value.ref a from rx)
    obtain ⟨mA, O, _⟩ := ins_get I.hok ea
    obtain ⟨od, J, _⟩ := O.look
    exact PySem.W.kia_one (PySem.W.kitx_own (cl.get _) cl.hd ha hn htk hm) I.kIn J e (fun z => nomatch z) h
end
end L2

namespace L2
open PySem PySem.Spec PyProof.Rows

structure Room (k : Nat) (A : Around) : Prop where
  hd : A.handled = none
  dp : A.depth + 3 * k + 5 < recursionLimit
  un : A.units + 16 * k + 200 < cLine
theorem Room.mono {j k : Nat} {A : Around} (r : Room k A) (h : j ≤ k) : Room j A := ⟨r.hd, by have := r.dp; omega, by have := r.un; omega⟩
theorem Room.deeper {k : Nat} {A : Around} (r : Room (k + 1) A) (env : Env) : Room k (A.deeper env) :=
  ⟨r.hd, by have := r.dp; show A.depth + 1 + 3 * k + 5 < _; omega, by have := r.un; show A.units + 3 + 16 * k + 200 < _; omega⟩
theorem Room.in1 {k : Nat} {A : Around} (r : Room (k + 1) A) : Room k A.in1 :=
  ⟨r.hd, by have := r.dp; show A.depth + 3 * k + 5 < _; omega, by have := r.un; show A.units + 1 + 16 * k + 200 < _; omega⟩
theorem Room.depth {k : Nat} {A : Around} (r : Room k A) : A.depth < recursionLimit := by have := r.dp; omega
theorem Room.units {k : Nat} {A : Around} (r : Room k A) : A.units + 64 < cLine := by have := r.un; omega
def tNil : TA := fun _ H Q => Q [] H
def tCons (ta : TE) (tr : TA) : TA := fun σ H Q => ta σ H fun x H1 => tr σ H1 fun xs H2 => Q (x :: xs) H2
section
variable {X : Cx} {e : Expr} {es : List Expr} {te : TE} {t : TA} {pos : Pos}
theorem pa_nil : PA X [] tNil := fun _ _ _ _ H Q I h => Calls.spliced_nil ⟨[], H, I, .nil, h⟩
theorem pa_cons (ha : PE X e te) (hr : PA X es t) (hs : starEach (e :: es) X.env = (false, eval e X.env) :: starEach es X.env := by rfl) : PA X (e :: es) (tCons te t) := by
  intro pos pins s σ H Q I h
  rw [hs]
  show wpAny _ _ (spliced ((false, eval e X.env) :: backTo pos (starEach es X.env))) _ _ s
  refine Calls.spliced_cons (thn (ha pins s σ H _ I h) fun u s1 ⟨x, H1, I1, r1, q1⟩ => ?_)
  exact thn (hr pos pins s1 σ H1 _ I1 q1) fun us s2 ⟨xs, H2, I2, r2, q2⟩ => ⟨x :: xs, H2, I2, .cons r1 r2, q2⟩

def tTup (t : TA) : TE := fun σ H Q => t σ H fun xs H1 => xs.length ≤ sizeLine ∧ ∀ p, H1 p = none → Q (.ref p) (upd H1 p (.tup xs))
def tLst (t : TA) : TE := fun σ H Q => t σ H fun xs H1 => xs.length ≤ sizeLine ∧ ∀ p, H1 p = none → Q (.ref p) (upd H1 p (.lst xs))
theorem pe_tup {x1} (h : PA X es t) : PE X (.Tuple es x1 pos) (tTup t) := by
  intro pins s σ H Q I hq
  refine wpAny_Tuple_spliced (thn (h pos pins s σ H _ I hq) fun us s1 ⟨xs, H1, I1, r, z, q⟩ => ⟨by rw [← r.length]; exact z, ?_⟩)
  have hf : H1 s1.heap.objs.size = none := I1.hok.fresh (Nat.le_refl _)
  refine ⟨.ref s1.heap.objs.size, upd H1 s1.heap.objs.size (.tup xs), I1.laid (t' := s1.toks) (fun b u e => Heap.get?_push_of_some _ e) (Nat.le_refl _) ?_, rfl, q _ hf⟩
  exact ⟨z, us, r, ⟨_, Heap.get?_push_size _ rfl, rfl, _, rfl⟩⟩
theorem pe_lst (h : PA X es t) : PE X (.List es pos) (tLst t) := by
  intro pins s σ H Q I hq
  refine wpAny_List_spliced (thn (h pos pins s σ H _ I hq) fun us s1 ⟨xs, H1, I1, r, z, q⟩ => ⟨by rw [← r.length]; exact z, ?_⟩)
  have hf : H1 s1.heap.objs.size = none := I1.hok.fresh (Nat.le_refl _)
  refine ⟨.ref s1.heap.objs.size, upd H1 s1.heap.objs.size (.lst xs), I1.laid (t' := s1.toks) (fun b u e => Heap.get?_push_of_some _ e) (Nat.le_refl _) ?_, rfl, q _ hf⟩
  exact ⟨z, us, 0, r, Heap.get?_push_size _ rfl⟩
end

abbrev Sp := List V → Hp → VK → XK → Prop
abbrev CXT := List Env → Hp → Shared → XK → Value → Shared → Prop

structure Env0 (P : Program) (w : World) (K : PySem.W.Frag) (mg : Str → Option Value) (base : Heap) (A : Around) (outer : List Env) (s : Shared) (H : Hp) : Prop where
  frames : A.frames = some outer
  mod : Mod K mg base
  bs : ∀ b o, base.get? b = some o → s.heap.get? b = some o ∧ H b = none
  bsz : base.objs.size ≤ s.heap.objs.size
  funs : s.heap.FunFrames base outer
  frf : ∀ b ∈ frs outer, H b = none
  hok : HOk P w H s.heap
  bare : AllBare s.gens
def CE (outer : List Env) (P : Program) (w : World) (H : Hp) (s : Shared) (Q : VK) (u : Value) (s' : Shared) : Prop :=
  ∃ v H', s'.os = s.os ∧ AllBare s'.gens ∧ Un (frs outer) [] H H' s.heap s'.heap ∧ HOk P w H' s'.heap ∧ RelV v u ∧ Q v H'
def CR (CX : CXT) (outer : List Env) (P : Program) (w : World) (H : Hp) (s : Shared) (Q : VK) (E : XK) (r : Result) (s' : Shared) : Prop :=
  match r with
  | .ok (.ret u) => CE outer P w H s Q u s'
  | .ok _ => False
  | .error e => CX outer H s E e s'
structure FnOk (P : Program) (w : World) (K : PySem.W.Frag) (mg : Str → Option Value) (base : Heap) (CX : CXT) (k : Nat) (f : Addr) (fd : FuncData) (ps : List Str) (sp : Sp) : Prop where
  len : ∀ vs H Q E, sp vs H Q E → vs.length = ps.length
  run : ∀ (A : Around) (outer : List Env) (s : Shared) (H : Hp) (args : Args) (us : List Value) (vs : List V) (Q : VK) (E : XK), Room k A → Env0 P w K mg base A outer s H → BindsTo s fd args (ps.zip us) → Vals vs us → sp vs H Q E →
    codeAny (model P w) A (.call (.ref f) args) (CR CX outer P w H s Q E) s
theorem FnOk.mono {P : Program} {w : World} {K : PySem.W.Frag} {mg : Str → Option Value} {base : Heap} {CX : CXT} {j k : Nat} {f : Addr} {fd : FuncData} {ps : List Str} {sp : Sp} (F : FnOk P w K mg base CX j f fd ps sp) (h : j ≤ k) :
    FnOk P w K mg base CX k f fd ps sp := ⟨F.len, fun A outer s H args us vs Q E hr => F.run A outer s H args us vs Q E (hr.mono h)⟩
theorem FnOk.imp {P : Program} {w : World} {K : PySem.W.Frag} {mg : Str → Option Value} {base : Heap} {CX : CXT} {k : Nat} {f : Addr} {fd : FuncData} {ps : List Str} {sp sp' : Sp} (F : FnOk P w K mg base CX k f fd ps sp)
    (h : ∀ vs H Q E, sp' vs H Q E → sp vs H Q E) : FnOk P w K mg base CX k f fd ps sp' :=
  ⟨fun vs H Q E q => F.len vs H Q E (h _ _ _ _ q), fun A outer s H args us vs Q E hr he hb hv hs => F.run A outer s H args us vs Q E hr he hb hv (h _ _ _ _ hs)⟩

theorem Env0.in1 {P : Program} {w : World} {K : PySem.W.Frag} {mg : Str → Option Value} {base : Heap} {A : Around} {outer : List Env} {s : Shared} {H : Hp} (e : Env0 P w K mg base A outer s H) :
    Env0 P w K mg base A.in1 outer s H := ⟨e.frames, e.mod, e.bs, e.bsz, e.funs, e.frf, e.hok, e.bare⟩

section
variable {X : Cx} {pins : List (Addr × Obj)} {σ : St} {H : Hp} {s s' : Shared}
theorem Inv.env0 (I : Inv X pins σ H s) : Env0 X.prog X.w X.K X.mg X.base X.A X.stack s H :=
  ⟨I.ok.frames, I.ok.mod, I.bs, Nat.le_trans I.ok.bsz I.sz, I.stack, I.stkFree, I.hok, I.bare⟩
theorem Inv.after {Q : VK} {u : Value} (I : Inv X pins σ H s) (h : CE X.stack X.prog X.w H s Q u s') : EP X pins σ Q u s' := by
  obtain ⟨v, H', os, bare, un, hok, r, q⟩ := h
  obtain ⟨hh, g, d, t, os'⟩ := s'
  obtain rfl : os' = s.os := os
  exact ⟨v, H', I.call (h' := hh) (g' := g) (d' := d) (t' := t) (ch := []) un hok bare (fun b z => absurd z (by simp)), r, q⟩
end

def tCall (sp : Sp) (dvs : List V) (E : XK) (t : TA) : TE := fun σ H Q => t σ H fun vs H1 => sp (vs ++ dvs) H1 Q E
def Binds (K : PySem.W.Frag) (fd : FuncData) (ps : List Str) (ds : List Value) : Prop :=
  ∀ (s : Shared) (us : List Value), K.In s.heap → (us ++ ds).length = ps.length → BindsTo s fd ⟨us, []⟩ (ps.zip (us ++ ds))
theorem Binds.all {K : PySem.W.Frag} {fd : FuncData} {ps : List Str} (h : ∀ us : List Value, us.length = ps.length → bindArgs fd ⟨us, []⟩ = pure (ps.zip us)) : Binds K fd ps [] := fun s us _ hl => by
  rw [List.append_nil] at hl ⊢
  exact .of_eq (h us hl)

def Passes (CX : CXT) (X : Cx) (E : XK) : Prop := ∀ (pins : List (Addr × Obj)) (σ : St) (H : Hp) (s : Shared) (e : Value) (s' : Shared), Inv X pins σ H s → CX X.stack H s E e s' → X.xe e s'

section
variable {X : Cx} {CX : CXT} {k : Nat} {f C : Addr} {fd : FuncData} {ps : List Str} {sp : Sp} {dvs : List V} {ds : List Value} {E : XK} {x m : Str} {p pos apos : Pos} {e o : Expr} {es : List Expr} {ta : TE} {t : TA}

theorem run_fn {pins : List (Addr × Obj)} {σ : St} {H : Hp} {s : Shared} {Q : VK} {us : List Value} {vs : List V} (F : FnOk X.prog X.w X.K X.mg X.base CX k f fd ps sp) (hr : Room k X.A) (hb : Binds X.K fd ps ds) (hd : Vals dvs ds) (hx : Passes CX X E)
    (I : Inv X pins σ H s) (r : Vals vs us) (h : sp (vs ++ dvs) H Q E) : wpAny (model X.prog X.w) X.A (call (.ref f) us) (EP X pins σ Q) X.xe s := by
  have r2 : Vals (vs ++ dvs) (us ++ ds) := r.append hd
  have hl : (us ++ ds).length = ps.length := by rw [← r2.length]; exact F.len _ _ _ _ h
  refine wpAny_call (codeAny_mono (F.run X.A X.stack s H ⟨us, []⟩ (us ++ ds) (vs ++ dvs) Q E hr I.env0 (hb s us I.kIn hl) r2 h) fun r s' hq => ?_)
  cases r with
  | error e => exact hx pins σ H s e s' I hq
  | ok fl =>
    cases fl with
    | ret u => exact I.after hq
    | next => exact False.elim hq
    | brk => exact False.elim hq
    | cont => exact False.elim hq

theorem pe_call (F : FnOk X.prog X.w X.K X.mg X.base CX k f fd ps sp) (hr : Room k X.A) (hg : Gl X x) (hm : X.mg x = some (.ref f)) (hk : PySem.W.keepIn X.K (.ref f) = true) (hb : Binds X.K fd ps ds) (hd : Vals dvs ds) (hx : Passes CX X E)
    (ha : PA X (e :: es) t) (hdb : (x == ("__debug__" : Str)) = false := by decide) (he : starEach (e :: es) X.env = (false, eval e X.env) :: starEach es X.env := by rfl) (hpl : (backTo pos (starEach es X.env)).any (·.1) = false := by rfl) :
    PE X (.Call (.Name x p) (e :: es) [] pos) (tCall sp dvs E t) := by
  intro pins s σ H Q I h
  refine wpAny_Call_Name_kw (ld_glob I hg hm ?_ hdb)
  refine PySem.W.callWith_K (h₀ := X.base) I.ok.mod.kin hk (thn (ha pos pins s σ H _ I h) fun us s1 ⟨vs, H1, I1, r, q⟩ => ⟨I1.kIn, ?_⟩) he hpl
  exact run_fn F hr hb hd hx I1 r q
structure Mk (K : PySem.W.Frag) (C f : Addr) : Prop where
  makes : PySem.W.makesIn K C = true
  init : PySem.W.findIn K (.ref C) "__init__" = some (some (.ref f))
  fn : PySem.W.isFn K (.ref f) = true
  kp : PySem.W.keepIn K (.ref C) = true

end

def PK (X : Cx) (kws : List Keyword) (t : TA) : Prop :=
  ∀ (pos : Pos) (pins : List (Addr × Obj)) (s : Shared) (σ : St) (H : Hp) (Q : List V → Hp → Prop), Inv X pins σ H s → t σ H Q → wpAny (model X.prog X.w) X.A (evalAll ((backToKw pos (keywordEach kws X.env)).map (·.2))) (AP X pins σ Q) X.xe s
section
variable {X : Cx} {CX : CXT} {k : Nat} {f C : Addr} {fd : FuncData} {ps ks : List Str} {sp : Sp} {E : XK} {x m : Str} {p pos apos kpos : Pos} {e o : Expr} {es : List Expr} {kws : List Keyword} {te ta : TE} {t tk : TA} {nm : Option Str}
theorem pk_nil : PK X [] tNil := fun _ _ _ _ H Q I h => wpAny_evalAll_nil ⟨[], H, I, .nil, h⟩
theorem pk_cons (ha : PE X e te) (hr : PK X kws t) : PK X (⟨nm, e, kpos⟩ :: kws) (tCons te t) := by
  intro pos pins s σ H Q I h
  show wpAny _ _ (evalAll ((do let v ← eval e X.env; standAt pos; pure v) :: (backToKw pos (keywordEach kws X.env)).map (·.2))) _ _ s
  refine wpAny_evalAll_cons (wpAny_bind (thn (ha pins s σ H _ I h) fun u s1 ⟨x, H1, I1, r1, q1⟩ => wpAny_bind (wpAny_standAt (wpAny_pure ?_))))
  exact thn (hr pos pins s1 σ H1 _ I1 q1) fun us s2 ⟨xs, H2, I2, r2, q2⟩ => ⟨x :: xs, H2, I2, .cons r1 r2, q2⟩

structure KBinds (K : PySem.W.Frag) (fd : FuncData) (ps ks : List Str) (g : List Value → List Value → List Value) (gV : List V → List V → List V) : Prop where
  to : ∀ (s : Shared) (us ws : List Value), K.In s.heap → (g us ws).length = ps.length → BindsTo s fd ⟨us, ks.zip ws⟩ (ps.zip (g us ws))
  rel : ∀ {vs : List V} {us : List Value} {zs : List V} {ws : List Value}, Vals vs us → Vals zs ws → Vals (gV vs zs) (g us ws)
variable {g : List Value → List Value → List Value} {gV : List V → List V → List V}
end

structure FnScope (N P : List Str) (sc : Scope) : Prop where
  kind : sc.kind = .function
  co : sc.isCoroutine = false
  gen : sc.isGenerator = false
  nd : N.Nodup
  pre : N.take P.length = P
  par : ∀ x ∈ P, sc.names.lookup x = some .local ∨ sc.names.lookup x = some .cell
  nofree : ∀ y ∈ sc.names, y.2 ≠ .free

theorem bindL_out {kindOf : Str → Option NameKind} {x : Str} : ∀ {binds : List (Str × Value)} {m : Str → Option Value}, (∀ v, (x, v) ∉ binds) → bindL kindOf binds m x = m x
  | [], _, _ => rfl
  | (n, v) :: r, m, h => by
    unfold bindL
    rw [bindL_out fun w hw => h w (List.mem_cons_of_mem _ hw)]
    split
    · have : x ≠ n := by rintro rfl; exact h v List.mem_cons_self
      simp [this]
    · rfl
theorem bindC_out {kindOf : Str → Option NameKind} {x : Str} : ∀ {binds : List (Str × Value)} {m : Str → Option Value}, (∀ v, (x, v) ∉ binds) → bindC kindOf binds m x = m x
  | [], _, _ => rfl
  | (n, v) :: r, m, h => by
    unfold bindC
    rw [bindC_out fun w hw => h w (List.mem_cons_of_mem _ hw)]
    split
    · rfl
    · have : x ≠ n := by rintro rfl; exact h v List.mem_cons_self
      simp [this]
theorem bindL_get {kindOf : Str → Option NameKind} {x : Str} {v : Value} : ∀ {P : List Str} {vs : List Value} {i : Nat} {m : Str → Option Value}, P.Nodup → P[i]? = some x → vs[i]? = some v → kindOf x = some .local →
    bindL kindOf (P.zip vs) m x = some v
  | [], _, _, _, _, h, _, _ => by simp at h
  | _ :: _, [], _, _, _, _, h, _ => by simp at h
  | p :: P, w :: vs, 0, m, nd, h1, h2, hk => by
    simp at h1 h2; subst h1; subst h2
    show bindL kindOf ((p, w) :: P.zip vs) m p = _
    unfold bindL
    rw [bindL_out fun v hv => (List.nodup_cons.mp nd).1 (List.of_mem_zip hv).1, if_pos hk]
    simp
  | p :: P, w :: vs, i + 1, m, nd, h1, h2, hk => by
    show bindL kindOf ((p, w) :: P.zip vs) m x = _
    unfold bindL
    exact bindL_get (i := i) (List.nodup_cons.mp nd).2 (by simpa using h1) (by simpa using h2) hk
theorem bindC_get {kindOf : Str → Option NameKind} {x : Str} {v : Value} : ∀ {P : List Str} {vs : List Value} {i : Nat} {m : Str → Option Value}, P.Nodup → P[i]? = some x → vs[i]? = some v → kindOf x ≠ some .local →
    bindC kindOf (P.zip vs) m x = some v
  | [], _, _, _, _, h, _, _ => by simp at h
  | _ :: _, [], _, _, _, _, h, _ => by simp at h
  | p :: P, w :: vs, 0, m, nd, h1, h2, hk => by
    simp at h1 h2; subst h1; subst h2
    show bindC kindOf ((p, w) :: P.zip vs) m p = _
    unfold bindC
    rw [bindC_out fun v hv => (List.nodup_cons.mp nd).1 (List.of_mem_zip hv).1, if_neg hk]
    simp
  | p :: P, w :: vs, i + 1, m, nd, h1, h2, hk => by
    show bindC kindOf ((p, w) :: P.zip vs) m x = _
    unfold bindC
    exact bindC_get (i := i) (List.nodup_cons.mp nd).2 (by simpa using h1) (by simpa using h2) hk

def start (N : List Str) (vs : List V) : St := vs.map some ++ List.replicate (N.length - vs.length) none

def cxOf (CX : CXT) (P : Program) (w : World) (K : PySem.W.Frag) (mg : Str → Option Value) (base : Heap) (N : List Str) (qual : Str) (scope : Scope) (f : Addr) (cd : Value) (A : Around) (outer : List Env) (s : Shared) (H : Hp) (E : XK) : Cx where
  prog := P
  w := w
  K := K
  mg := mg
  base := base
  A := A.deeper (envOfC qual scope s.heap.objs.size f cd)
  N := N
  s₀ := s
  H₀ := H
  env := envOfC qual scope s.heap.objs.size f cd
  outer := outer
  stack := envOfC qual scope s.heap.objs.size f cd :: outer
  ex := []
  calm := true
  fn := fun _ => true
  pn := []
  xe := fun e s' => wpAny (model P w) (A.deeper (envOfC qual scope s.heap.objs.size f cd)) (leaving (envOfC qual scope s.heap.objs.size f cd) e) (fun _ s'' => CX outer H s E e s'') (fun e' s'' => CX outer H s E e' s'') s'

theorem cell_has {sc : Scope} {n : Nat} {x : Str} (h : sc.names.lookup x = some .cell) : ∃ c, (cellsFrom n sc.names []).lookup x = some c := by
  have q := PySem.W.cellsFrom_some sc.names n [] (.inl h)
  exact Option.isSome_iff_exists.mp q

theorem inv_start {CX : CXT} {P : Program} {w : World} {K : PySem.W.Frag} {mg : Str → Option Value} {base : Heap} {N ps : List Str} {qual : Str} {scope : Scope} {f : Addr} {cd : Value} {A : Around} {outer : List Env} {s s1 : Shared} {H : Hp} {E : XK} {us : List Value} {vs : List V}
    (S : FnScope N ps scope) (hd : A.handled = none) (e0 : Env0 P w K mg base A outer s H) (hl : vs.length = ps.length) (r : Vals vs us)
    (x : InCallC s s.heap.objs.size (bindL (envOfC qual scope s.heap.objs.size f cd).kindOf (ps.zip us) fun _ => none) (cellsFrom (s.heap.objs.size + 1) scope.names []) (bindC (envOfC qual scope s.heap.objs.size f cd).kindOf (ps.zip us) fun _ => none) s1) :
    Inv (cxOf CX P w K mg base N qual scope f cd A outer s H E) [] (start N vs) H s1 := by
  have hpl : ps.length ≤ N.length := by have := congrArg List.length S.pre; rw [List.length_take] at this; omega
  obtain ⟨h1, tk, rfl, hk⟩ := x.done
  have noA : ∀ b : Addr, b ∉ (cxOf CX P w K mg base N qual scope f cd A outer s H E).ex := fun b z => absurd (show b ∈ ([] : List Addr) from z) (by simp)
  refine ⟨⟨e0.mod, S.kind, rfl, rfl, Nat.le_refl _, fun y z c h1 h2 => ?_, fun y hy => ?_, fun y c _ h => ?_, fun _ => hd, Around.frames_deeper e0.frames, .inr ⟨rfl, rfl⟩, fun b z => absurd z (noA b), e0.bs, e0.bsz, fun b _ _ => noA b, fun b z => absurd z (noA b), e0.funs, e0.frf⟩,
    rfl, e0.bare, Un.kept hk, ⟨_, x.toInCall.ns, fun i y v h1 h2 h3 => ?_⟩, fun y c h => ⟨_, x.cell y c h⟩, e0.hok.fresh (Nat.le_refl _), fun y c h => ?_, fun p hp => absurd (show p ∈ ([] : List (Addr × Obj)) from hp) (by simp), e0.hok.kept hk, ?_⟩
  · exact name_of_addr x.apart (PySem.mem_of_lookup h1) (PySem.mem_of_lookup h2)
  · have hy : scope.names.lookup y = some .cell ∨ scope.names.lookup y = some .free := hy
    rcases hy with hy | hy
    · exact cell_has hy
    · exact absurd rfl (S.nofree _ (PySem.mem_of_lookup hy))
  · exact Nat.le_of_lt (x.above y c (PySem.mem_of_lookup h))
  · have hi : i < vs.length := by
      unfold start at h2
      by_cases hi : i < vs.length
      · exact hi
      · rw [List.getElem?_append_right (by simpa using hi)] at h2
        rw [List.getElem?_replicate] at h2
        split at h2 <;> cases h2
    have ha : vs[i]? = some v := by
      unfold start at h2
      rw [List.getElem?_append_left (by simpa using hi), List.getElem?_map] at h2
      cases e : vs[i]? with
      | none => rw [e] at h2; cases h2
      | some a => rw [e] at h2; cases h2; rfl
    obtain ⟨u, hu, rv⟩ := r.get ha
    have hp : ps[i]? = some y := by
      rw [← S.pre, List.getElem?_take_of_lt (by omega)]; exact h1
    have ndP : ps.Nodup := by rw [← S.pre]; exact S.nd.sublist (List.take_sublist _ _)
    refine ⟨u, rv, ?_⟩
    rcases S.par y (List.mem_of_getElem? hp) with k | k
    · exact .inl ⟨k, bindL_get ndP hp hu k⟩
    · obtain ⟨c, e⟩ := cell_has (n := s.heap.objs.size + 1) k
      refine .inr ⟨.inl k, c, e, ?_⟩
      have q := x.cell y c e
      rw [bindC_get ndP hp hu (by show scope.names.lookup y ≠ _; rw [k]; decide)] at q
      exact q
  · exact e0.hok.fresh (Nat.le_of_lt (x.above y c (PySem.mem_of_lookup h)))
  · unfold start
    show _ = N.length
    rw [List.length_append, List.length_map, List.length_replicate]
    omega

theorem fn_of {CX : CXT} {P : Program} {w : World} {K : PySem.W.Frag} {mg : Str → Option Value} {base : Heap} {k : Nat} {f : Addr} {name qual : Str} {params : Arguments} {body : List Stmt} {scope : Scope} {dV kV doc pm cdv ct oc : Value} {an od : Option Addr}
    {osl : Array (Option Value)} {N ps : List Str} {sp : Sp} (lk : K.lookup f = some ⟨oc, od, .func (PySem.W.fnOf name qual params body scope dV kV doc pm an cdv ct), osl⟩) (hcd : PySem.W.codeIn K cdv qual = true) (S : FnScope N ps scope)
    (len : ∀ vs H Q E, sp vs H Q E → vs.length = ps.length)
    (hbody : ∀ (A : Around) (outer : List Env) (s : Shared) (H : Hp) (vs : List V) (Q : VK) (E : XK), Room k (A.deeper (envOfC qual scope s.heap.objs.size f cdv)) → sp vs H Q E →
      ∃ t, PSs (cxOf CX P w K mg base N qual scope f cdv A outer s H E) body t ∧ t { nx := fun _ H' => Q .non H', rt := Q } (start N vs) H) :
    FnOk P w K mg base CX (k + 1) f (PySem.W.fnOf name qual params body scope dV kV doc pm an cdv ct) ps sp := by
  refine ⟨len, fun A outer s H args us vs Q E hr e0 hb r hsp => ?_⟩
  have hl := len _ _ _ _ hsp
  have KX : K.In s.heap := e0.mod.kin.keeps fun b o e => (e0.bs b o e).1
  have lim : s.heap.NoLimit := e0.mod.nolimit.keeps fun b o e => (e0.bs b o e).1
  have hkind : ∀ y ∈ ps.zip us, scope.names.lookup y.1 = some .local ∨ (scope.names.lookup y.1 = some .cell ∧ ((cellsFrom (s.heap.objs.size + 1) scope.names []).lookup y.1).isSome = true) := fun ⟨n, v⟩ hy => by
    rcases S.par n (List.of_mem_zip hy).1 with q | q
    · exact .inl q
    · exact .inr ⟨q, PySem.W.cellsFrom_some _ _ _ (.inl q)⟩
  refine codeAny_call_function hr.depth (KX _ _ lk) rfl S.co S.gen rfl (PySem.W.codeRec_of KX hcd) (hb _ _ _ _ ?_)
  refine wpAny_newFunctionEnv_cells S.kind hkind fun env he s1 x => ?_
  subst he
  refine ⟨lim.keeps x.toInCall.keep, codeAny_func ?_⟩
  obtain ⟨t, ht, hq⟩ := hbody A outer s H vs Q E (hr.deeper _) hsp
  have I : Inv (cxOf CX P w K mg base N qual scope f cdv A outer s H E) [] (start N vs) H s1 := inv_start S hr.hd e0 hl r x
  refine wpAny_mono (ht [] s1 (start N vs) H _ I hq) (fun fl s' hs => ?_) fun e s' hs => hs
  have fin : ∀ {σ' : St} {H' : Hp} {v : V} {u : Value}, Inv (cxOf CX P w K mg base N qual scope f cdv A outer s H E) [] σ' H' s' → RelV v u → Q v H' → CE outer P w H s Q u s' :=
    fun {σ' H' v u} J rv q => ⟨v, H', J.os, J.bare, J.base, J.hok, rv, q⟩
  cases fl with
  | ret u =>
    obtain ⟨v, σ', H', J, rv, q⟩ := hs
    exact fin J rv q
  | next =>
    obtain ⟨σ', H', J, q⟩ := hs
    exact fin (v := V.non) (u := Value.none) J rfl q
  | brk =>
    obtain ⟨_, _, _, q⟩ := hs
    exact False.elim q
  | cont =>
    obtain ⟨_, _, _, q⟩ := hs
    exact False.elim q
end L2

namespace L2
open PySem PySem.Spec PyProof.Rows
section
variable {X : Cx} {x : Str} {p pos : Pos} {e : Expr} {es : List Expr} {t : TA} {id T : String} {r : List V → Hp → VK → Prop}

def tCB (r : List V → Hp → VK → Prop) (t : TA) : TE := fun σ H Q => t σ H fun vs H1 => r vs H1 Q
theorem pe_callB (hc : CallR X (.builtin id) r) (hg : Gl X x) (hm : X.mg x = none) (hv : bootBuiltins x = some (.builtin id)) (ha : PA X (e :: es) t) (hn : x ≠ "__name__" := by decide) (hdb : (x == ("__debug__" : Str)) = false := by decide)
    (he : starEach (e :: es) X.env = (false, eval e X.env) :: starEach es X.env := by rfl) (hpl : (backTo pos (starEach es X.env)).any (·.1) = false := by rfl) : PE X (.Call (.Name x p) (e :: es) [] pos) (tCB r t) := by
  intro pins s σ H Q I h
  refine wpAny_Call_Name_kw (ld_blt I hg hm hv ?_ hn hdb)
  exact PyProof.Rows.callWith_builtin1 (thn (ha pos pins s σ H _ I h) fun us s1 ⟨vs, H1, I1, r1, q1⟩ => hc pins s1 σ H1 vs us Q I1 r1 q1) he hpl
theorem pe_callTy (hc : CallR X (.type T) r) (hg : Gl X x) (hm : X.mg x = none) (hv : bootBuiltins x = some (.type T)) (ha : PA X (e :: es) t) (hn : x ≠ "__name__" := by decide) (hdb : (x == ("__debug__" : Str)) = false := by decide)
    (he : starEach (e :: es) X.env = (false, eval e X.env) :: starEach es X.env := by rfl) (hpl : (backTo pos (starEach es X.env)).any (·.1) = false := by rfl) : PE X (.Call (.Name x p) (e :: es) [] pos) (tCB r t) := by
  intro pins s σ H Q I h
  refine wpAny_Call_Name_kw (ld_blt I hg hm hv ?_ hn hdb)
  exact PyProof.Rows.callWith_type1 (thn (ha pos pins s σ H _ I h) fun us s1 ⟨vs, H1, I1, r1, q1⟩ => hc pins s1 σ H1 vs us Q I1 r1 q1) he hpl
end
end L2

namespace HT
open PySem PyProof.Rows

theorem rcLt_int (A : Around) (s : Shared) (a : Int) (t : Tok) (c : Int) (u : Tok) (prog : Program) (w : World) (E : Value → Shared → Prop) (Q : Value → Shared → Prop) (h : Q (.bool (decide (a < c))) s) :
    wpAny (model prog w) A (richCompare .Lt (.int a t) (.int c u)) Q E s :=
  (PyProof.Rows.lt_int h : wpAny (model prog w) A (compareOp .Lt (.int a t) (.int c u)) Q E s)

section
open PySem.SeqAt
open PySem.AutoSeq1 (wpAny_loadPart')
open PySem.MeetsSeq PySem.MeetsSeq2 PySem.MeetsSeq3

end

section
variable {prog : Program} {w : World} {A : Around} {E : Value → Shared → Prop} {s : Shared}

def sIx (n d : Nat) : Option Int → Nat
  | none => d
  | some v => if v < 0 then (v + (n : Int)).toNat else min v.toNat n
theorem sIx_none (n d : Nat) : sIx n d none = d := rfl
theorem sIx_nat (n d k : Nat) : sIx n d (some (k : Int)) = min k n := by
  show (if (k : Int) < 0 then ((k : Int) + (n : Int)).toNat else min (k : Int).toNat n) = min k n
  rw [if_neg (by omega), Int.toNat_natCast]
end
end HT

namespace L2
open PySem PySem.Spec PyProof.Rows

abbrev TO := St → Hp → (Option Int → Hp → Prop) → Prop
def PO (X : Cx) (e : Option Expr) (t : TO) : Prop :=
  ∀ (pins : List (Addr × Obj)) (s : Shared) (σ : St) (H : Hp) (Q : Option Int → Hp → Prop), Inv X pins σ H s → t σ H Q →
    wpAny (model X.prog X.w) X.A (evalPart e X.env) (fun u s' => ∃ o H', Inv X pins σ H' s' ∧ IsPart u o ∧ Q o H') X.xe s
def tNoPart : TO := fun _ H Q => Q none H
def tPart (t : TE) : TO := fun σ H Q => t σ H fun x H1 => ∃ i, x = .int i ∧ Q (some i) H1

section
variable {X : Cx} {e : Expr} {te : TE} {lo hi : Option Expr} {tl th : TO} {pos p2 : Pos}

theorem po_none : PO X none tNoPart := by
  intro pins s σ H Q I h
  rw [evalPart_none]
  exact wpAny_pure ⟨none, H, I, .none, h⟩
theorem po_some (h : PE X e te) : PO X (some e) (tPart te) := by
  intro pins s σ H Q I hw
  rw [evalPart_some]
  refine thn (h pins s σ H _ I hw) fun u s1 ⟨x, H1, I1, r1, q1⟩ => ?_
  obtain ⟨i, rfl, q⟩ := q1
  obtain ⟨t, rfl⟩ := r1
  exact ⟨some i, H1, I1, .int i t, q⟩

def SlR (X : Cx) (r : V → Option Int → Option Int → Hp → VK → Prop) : Prop :=
  ∀ (pins : List (Addr × Obj)) (s : Shared) (σ : St) (H : Hp) (x : V) (v vl vu : Value) (lo hi : Option Int) (sl : Addr) (Q : VK), Inv X pins σ H s → RelV x v → s.heap.IsSliceOf sl vl vu .none → IsPart vl lo → IsPart vu hi → r x lo hi H Q →
    ∃ T id, typeLookup (.type T) "__getitem__" = pure (some (.builtin id)) ∧ s.TypeIs v T ∧ wpAny (model X.prog X.w) X.A (getItem v (.ref sl)) (EP X pins σ Q) X.xe s
theorem SlR.or {r r' : V → Option Int → Option Int → Hp → VK → Prop} (h : SlR X r) (h' : SlR X r') : SlR X (fun x lo hi H Q => r x lo hi H Q ∨ r' x lo hi H Q) := by
  intro pins s σ H x v vl vu lo hi sl Q I rx hs pl pu q
  rcases q with q | q
  · exact h pins s σ H x v vl vu lo hi sl Q I rx hs pl pu q
  · exact h' pins s σ H x v vl vu lo hi sl Q I rx hs pl pu q
def tSl (r : V → Option Int → Option Int → Hp → VK → Prop) (te : TE) (tl th : TO) : TE := fun σ H Q => te σ H fun x H1 => tl σ H1 fun l H2 => th σ H2 fun u H3 => r x l u H3 Q
theorem pe_slice {r : V → Option Int → Option Int → Hp → VK → Prop} (hr : SlR X r) (he : PE X e te) (hl : PO X lo tl) (hu : PO X hi th) : PE X (.Subscript e (.Slice lo hi none p2) pos) (tSl r te tl th) := by
  intro pins s σ H Q I h
  refine Subscript_ (thn (he pins s σ H _ I h) fun v s1 ⟨x, H1, I1, r1, q1⟩ => ?_)
  refine wpAny_Slice (thn (hl pins s1 σ H1 _ I1 q1) fun vl s2 ⟨l, H2, I2, pl, q2⟩ => thn (hu pins s2 σ H2 _ I2 q2) fun vu s3 ⟨u, H3, I3, pu, q3⟩ => ?_)
  rw [evalPart_none]
  refine wpAny_pure ?_
  have I4 : Inv X pins σ H3 { s3 with heap := s3.heap.push { cls := .type "slice", data := .fields #[vl, vu, .none] } } := I3.kept (t' := s3.toks) fun b ob q => Heap.get?_push_of_some _ q
  obtain ⟨T, id, hT, ht, hg⟩ := hr pins { s3 with heap := s3.heap.push { cls := .type "slice", data := .fields #[vl, vu, .none] } } σ H3 x v vl vu l u s3.heap.objs.size Q I4 r1 (Heap.IsSliceOf.new ..) pl pu q3
  show wpAny (model X.prog X.w) X.A (subscriptTail e (.Slice lo hi none p2) v (.ref s3.heap.objs.size)) (EP X pins σ Q) X.xe { s3 with heap := s3.heap.push { cls := .type "slice", data := .fields #[vl, vu, .none] } }
  exact tail_any (ops := [.ref s3.heap.objs.size, v]) ht hT hg (by with_unfolding_all rfl)

def cutV (xs : List V) (lo hi : Option Int) : List V := (xs.drop (HT.sIx xs.length 0 lo)).take (HT.sIx xs.length xs.length hi - HT.sIx xs.length 0 lo)
theorem cutV_length (xs : List V) (lo hi : Option Int) : (cutV xs lo hi).length ≤ xs.length := by
  unfold cutV
  rw [List.length_take, List.length_drop]
  omega
end
end L2

namespace L2
open PySem PySem.Spec PyProof.Rows

def ixN (n : Nat) (i : Int) : Option Nat := if 0 ≤ i then (if i < n then some i.toNat else none) else if -(n : Int) ≤ i then some (i + n).toNat else none
def atI {α : Type} (xs : List α) (i : Int) : Option α := (ixN xs.length i).bind fun j => xs[j]?
theorem ixN_seq {n : Nat} {i : Int} {j : Nat} (h : ixN n i = some j) : seqIndex? i n = some j ∧ j < n ∧ -(n : Int) ≤ i ∧ i < n := by
  unfold ixN at h
  by_cases h0 : 0 ≤ i
  · rw [if_pos h0] at h
    by_cases h1 : i < n
    · rw [if_pos h1] at h
      have e : i.toNat = j := Option.some.inj h
      exact ⟨by rw [seqIndex_of h0 h1, e], by omega, by omega, h1⟩
    · rw [if_neg h1] at h; cases h
  · rw [if_neg h0] at h
    by_cases h1 : -(n : Int) ≤ i
    · rw [if_pos h1] at h
      have e : (i + n).toNat = j := Option.some.inj h
      exact ⟨by rw [seqIndex_neg (by omega) h1, e], by omega, h1, by omega⟩
    · rw [if_neg h1] at h; cases h
theorem atI_get {α : Type} {xs : List α} {i : Int} {v : α} (h : atI xs i = some v) : ∃ j, seqIndex? i xs.length = some j ∧ xs[j]? = some v ∧ j < xs.length ∧ -(xs.length : Int) ≤ i ∧ i < xs.length := by
  unfold atI at h
  cases e : ixN xs.length i with
  | none => rw [e] at h; cases h
  | some j =>
    rw [e] at h
    obtain ⟨h1, h2, h3, h4⟩ := ixN_seq e
    exact ⟨j, h1, h, h2, h3, h4⟩
theorem atI_last {α : Type} (xs : List α) (v : α) : atI (xs ++ [v]) (-1) = some v := by
  have hl : (xs ++ [v]).length = xs.length + 1 := by simp
  have e : ixN (xs ++ [v]).length (-1) = some xs.length := by
    unfold ixN
    rw [hl, if_neg (by decide), if_pos (by omega)]
    congr 1
    omega
  unfold atI
  rw [e]
  show (xs ++ [v])[xs.length]? = some v
  simp

def PlainIx (b : Expr) : Prop := ∀ o i, subscripted b false o i = operate [o, i] (getItem o i)
def IxR (X : Cx) (r : R2) : Prop :=
  ∀ (value slice : Expr) (pins : List (Addr × Obj)) (s : Shared) (σ : St) (H : Hp) (x y : V) (v u : Value) (Q : VK), Inv X pins σ H s → RelV x v → RelV y u → r x y H Q →
    subscripted slice false v u = operate [v, u] (getItem v u) → wpAny (model X.prog X.w) X.A (subscriptTail value slice v u) (EP X pins σ Q) X.xe s
def MtR (X : Cx) (id : String) (r : V → List V → Hp → VK → Prop) : Prop :=
  ∀ (pins : List (Addr × Obj)) (s : Shared) (σ : St) (H : Hp) (x : V) (xs : List V) (v : Value) (us : List Value) (Q : VK), Inv X pins σ H s → RelV x v → Vals xs us → r x xs H Q →
    wpAny (model X.prog X.w) X.A (call (.builtin id) (v :: us)) (EP X pins σ Q) X.xe s
section
variable {X : Cx} {a b : Expr} {ta tb : TE} {pos : Pos}
theorem IxR.or {r r' : R2} (h : IxR X r) (h' : IxR X r') : IxR X (fun x y H Q => r x y H Q ∨ r' x y H Q) := by
  intro value slice pins s σ H x y v u Q I rx ry q hs
  rcases q with q | q
  · exact h value slice pins s σ H x y v u Q I rx ry q hs
  · exact h' value slice pins s σ H x y v u Q I rx ry q hs
theorem MtR.or {id : String} {r r' : V → List V → Hp → VK → Prop} (h : MtR X id r) (h' : MtR X id r') : MtR X id (fun x xs H Q => r x xs H Q ∨ r' x xs H Q) := by
  intro pins s σ H x xs v us Q I rx rs q
  rcases q with q | q
  · exact h pins s σ H x xs v us Q I rx rs q
  · exact h' pins s σ H x xs v us Q I rx rs q
theorem pe_ix {r : R2} (hr : IxR X r) (ha : PE X a ta) (hb : PE X b tb) (hs : PlainIx b) : PE X (.Subscript a b pos) (tOp r ta tb) := by
  intro pins s σ H Q I h
  exact Subscript_ (binT ha hb I h fun v u s2 x y H2 I2 rx ry q => hr a b pins s2 σ H2 x y v u Q I2 rx ry q (hs _ _))

def rIxL (K : PySem.W.Frag) : R2 := fun x y H Q => ∃ p xs i v, x = .ref p ∧ y = .int i ∧ SqL K H p xs ∧ atI xs i = some v ∧ Q v H
theorem ix_list : IxR X (rIxL X.K) := by
  intro value slice pins s σ H x y v u Q I rx ry h hs
  obtain ⟨p, xs, i, z, rfl, rfl, hq, he, q⟩ := h
  cases rx
  obtain ⟨t, rfl⟩ := ry
  obtain ⟨its, r, pl, hz⟩ := I.list hq
  obtain ⟨j, h1, h2, h3, h4, h5⟩ := atI_get he
  obtain ⟨w, ew, rw'⟩ := r.get h2
  have hl := r.length
  have hn := line63
  have fin : EP X pins σ Q w s := ⟨z, H, I, rw', q⟩
  by_cases h0 : 0 ≤ i
  · have hj : i.toNat = j := by
      rw [seqIndex_of h0 h5] at h1
      exact Option.some.inj h1
    exact item_listR pl.isList h0 (by omega) (by rw [hj]; simpa using ew) fin hs
  · have hj : (i + (its.toArray.size : Int)).toNat = j := by
      rw [seqIndex_neg (by omega) h4] at h1
      rw [List.size_toArray, ← hl]
      exact Option.some.inj h1
    exact subscriptTail_builtinR (x := w) pl.isList.typeIs slot_list_getitem.lookup
      (wpAny_getItem_list_neg (Q := fun r s' => r = w ∧ EP X pins σ Q r s') pl.isList (by omega) (by rw [List.size_toArray] <;> omega) (by omega) (by rw [hj]; simpa using ew) ⟨rfl, fin⟩) hs
theorem mapSeq_set (its : List Value) (n j : Nat) (u : Value) : Obj.mapSeq (·.setIfInBounds j u) { cls := .type "list", data := .seq its.toArray n } = { cls := .type "list", data := .seq (its.set j u).toArray n } := by
  simp [Obj.mapSeq]
theorem Inv.lst {pins : List (Addr × Obj)} {σ : St} {H : Hp} {s : Shared} {p : Addr} {xs : List V} (I : Inv X pins σ H s) (h : H p = some (.lst xs)) :
    ∃ (its : List Value) (n : Nat), Vals xs its ∧ s.heap.get? p = some { cls := .type "list", data := .seq its.toArray n } ∧ xs.length ≤ sizeLine := by
  obtain ⟨z, its, n, r, e⟩ := I.hok p _ h
  exact ⟨its, n, r, e, z⟩
theorem Inv.lstUpd {pins : List (Addr × Obj)} {σ : St} {H : Hp} {s : Shared} {p : Addr} {xs ys : List V} {its its' : List Value} {n n' : Nat} {f : Obj → Obj} (I : Inv X pins σ H s) (h : H p = some (.lst xs))
    (ho : s.heap.get? p = some { cls := .type "list", data := .seq its.toArray n }) (hf : f { cls := .type "list", data := .seq its.toArray n } = { cls := .type "list", data := .seq its'.toArray n' }) (r : Vals ys its') (hz : ys.length ≤ sizeLine) (t : Nat) :
    Inv X pins σ (upd H p (.lst ys)) { s with heap := s.heap.update p f, toks := t } := by
  have e : (s.heap.update p f).get? p = some { cls := .type "list", data := .seq its'.toArray n' } := by
    rw [Heap.get?_update_self f ho (by rw [hf] <;> rfl), hf]
  refine I.write (x := p) (e := p) (by rw [h]; trivial) (.inl rfl) (fun b u hb q => (Heap.get?_update_other _ _ (Ne.symm hb)).trans q) ⟨_, e⟩ ?_
  exact ⟨hz, its', n', r, e⟩
def rSetL : V → V → V → Hp → (Hp → Prop) → Prop := fun o i v H Q => ∃ p xs k j, o = .ref p ∧ i = .int k ∧ H p = some (.lst xs) ∧ ixN xs.length k = some j ∧ Q (upd H p (.lst (xs.set j v)))
theorem set_list : PSet X rSetL := by
  intro pins s σ H o i v ov iv u Q I ro ri rv h
  obtain ⟨p, xs, k, j, rfl, rfl, hp, hj, q⟩ := h
  cases ro
  obtain ⟨t, rfl⟩ := ri
  obtain ⟨its, n, r, ho, hz⟩ := I.lst hp
  obtain ⟨h1, h2, h3, h4⟩ := ixN_seq hj
  have hl := r.length
  have hn := line63
  have I' : Inv X pins σ (upd H p (.lst (xs.set j v))) { s with heap := s.heap.update p (Obj.mapSeq (·.setIfInBounds j u)) } :=
    I.lstUpd hp ho (mapSeq_set its n j u) (r.set rv j) (by rw [List.length_set]; exact hz) s.toks
  by_cases h0 : 0 ≤ k
  · have hk : k.toNat = j := by
      rw [seqIndex_of h0 h4] at h1
      exact Option.some.inj h1
    exact PySem.W.ki_setAt ho h0 (by omega) (by rw [List.size_toArray, ← hl]; exact h4) (by rw [hk]; exact ⟨_, I', q⟩)
  · have hk : (k + (its.toArray.size : Int)).toNat = j := by
      rw [seqIndex_neg (by omega) h3] at h1
      rw [List.size_toArray, ← hl]
      exact Option.some.inj h1
    exact PySem.W.ki_setBack ho (by omega) (by rw [List.size_toArray, ← hl]; exact h3) (by omega) (by rw [hk]; exact ⟨_, I', q⟩)

theorem slice_bounds (lo hi : Option Int) (n : Nat) : (sliceBounds lo hi none n).1 = ((HT.sIx n 0 lo : Nat) : Int) ∧ (sliceBounds lo hi none n).2.1 = ((HT.sIx n n hi : Nat) : Int) ∧ (sliceBounds lo hi none n).2.2 = 1 := by
  refine ⟨?_, ?_, rfl⟩
  · cases lo with
    | none => simp [sliceBounds, HT.sIx]
    | some i =>
      simp only [sliceBounds, HT.sIx, Option.getD_none, show (1 : Int) > 0 by decide, if_true]
      by_cases h : i < 0
      · simp only [h, if_true] <;> omega
      · simp only [h, if_false] <;> omega
  · cases hi with
    | none => simp [sliceBounds, HT.sIx]
    | some i =>
      simp only [sliceBounds, HT.sIx, Option.getD_none, show (1 : Int) > 0 by decide, if_true]
      by_cases h : i < 0
      · simp only [h, if_true] <;> omega
      · simp only [h, if_false] <;> omega
theorem slicePick_cut (its : List Value) (lo hi : Option Int) : slicePick its.toArray lo hi none = ((its.drop (HT.sIx its.length 0 lo)).take (HT.sIx its.length its.length hi - HT.sIx its.length 0 lo)).toArray := by
  obtain ⟨h1, h2, h3⟩ := slice_bounds lo hi its.toArray.size
  unfold slicePick
  rw [h1, h2, h3]
  simp only [sliceRange_one, pick_run, List.size_toArray] <;> rfl
def rSlL (K : PySem.W.Frag) : V → Option Int → Option Int → Hp → VK → Prop := fun x lo hi H Q => ∃ a xs, x = .ref a ∧ SqL K H a xs ∧ ∀ p, H p = none → Q (.ref p) (upd H p (.lst (cutV xs lo hi)))
theorem sl_list : SlR X (rSlL X.K) := by
  intro pins s σ H x v vl vu lo hi sl Q I rx hs pl pu h
  obtain ⟨a, xs, rfl, hx, q⟩ := h
  cases rx
  obtain ⟨its, r, ht, hz⟩ := I.list hx
  have hlen := r.length
  refine ⟨"list", _, slot_list_getitem.lookup, ht.isList.typeIs, ?_⟩
  refine wpAny_getItem_list_slice ht.isList hs pl pu .none (by simp) ?_ (by rw [List.size_toArray] <;> omega)
  rw [slicePick_cut, ← hlen]
  refine ⟨.ref s.heap.objs.size, _, I.laid (t' := s.toks) (o := .lst (cutV xs lo hi)) (fun b ob q => Heap.get?_push_of_some _ q) (Nat.le_refl _) ?_, rfl, q _ (I.hok.fresh (Nat.le_refl _))⟩
  exact ⟨Nat.le_trans (cutV_length xs lo hi) hz, _, 0, (r.drop (HT.sIx xs.length 0 lo)).take (HT.sIx xs.length xs.length hi - HT.sIx xs.length 0 lo), Heap.get?_push_size _ rfl⟩

def flatV : V → Bool
  | .non => true
  | .bl _ => true
  | .int _ => true
  | .str _ => true
  | _ => false
def eqV : V → V → Bool
  | .non, .non => true
  | .bl a, .bl b => a == b
  | .bl a, .int b => (if a then 1 else 0) == b
  | .int a, .bl b => a == (if b then 1 else 0)
  | .int a, .int b => a == b
  | .str a, .str b => a == b
  | _, _ => false
theorem eqAt_V {A : Around} {s : Shared} {y x : V} {u v : Value} (ry : RelV y u) (rx : RelV x v) (fy : flatV y = true) (fx : flatV x = true) : SeqAt.EqAt A s u v (eqV y x) := by
  cases y with
  | non =>
    cases ry
    cases x with
    | non => cases rx; exact SeqAt.EqAt.same _
    | bl b => cases rx; exact SeqAt.EqAt.none_bool b
    | int b => obtain ⟨t, rfl⟩ := rx; exact SeqAt.EqAt.none_int b t
    | str b => obtain ⟨t, rfl⟩ := rx; exact SeqAt.EqAt.none_str b t
    | _ => exact absurd (show false = true from fx) Bool.false_ne_true
  | bl a =>
    cases ry
    cases x with
    | non => cases rx; exact SeqAt.EqAt.bool_none a
    | bl b => cases rx; exact SeqAt.EqAt.bool_bool a b
    | int b => obtain ⟨t, rfl⟩ := rx; exact SeqAt.EqAt.bool_int a b t
    | str b => obtain ⟨t, rfl⟩ := rx; exact SeqAt.EqAt.bool_str a b t
    | _ => exact absurd (show false = true from fx) Bool.false_ne_true
  | int a =>
    obtain ⟨t', rfl⟩ := ry
    cases x with
    | non => cases rx; exact SeqAt.EqAt.int_none a t'
    | bl b => cases rx; exact SeqAt.EqAt.int_bool a t' b
    | int b => obtain ⟨t, rfl⟩ := rx; exact SeqAt.EqAt.int_int a t' b t
    | str b => obtain ⟨t, rfl⟩ := rx; exact SeqAt.EqAt.int_str a t' b t
    | _ => exact absurd (show false = true from fx) Bool.false_ne_true
  | str a =>
    obtain ⟨t', rfl⟩ := ry
    cases x with
    | non => cases rx; exact SeqAt.EqAt.str_none a t'
    | bl b => cases rx; exact SeqAt.EqAt.str_bool a t' b
    | int b => obtain ⟨t, rfl⟩ := rx; exact SeqAt.EqAt.str_int a t' b t
    | str b => obtain ⟨t, rfl⟩ := rx; exact SeqAt.EqAt.str_str a t' b t
    | _ => exact absurd (show false = true from fx) Bool.false_ne_true
  | _ => exact absurd (show false = true from fy) Bool.false_ne_true
def eqU (x : V) (u : Value) : Bool := match u with
  | .none => eqV .non x
  | .bool b => eqV (.bl b) x
  | .int i _ => eqV (.int i) x
  | .str z _ => eqV (.str z) x
  | _ => false
theorem eqU_of {x y : V} {u : Value} (r : RelV y u) (f : flatV y = true) : eqU x u = eqV y x := by
  cases y with
  | non => cases r; rfl
  | bl b => cases r; rfl
  | int i => obtain ⟨t, rfl⟩ := r; rfl
  | str z => obtain ⟨t, rfl⟩ := r; rfl
  | _ => exact absurd (show false = true from f) Bool.false_ne_true
theorem any_eqU {x : V} : ∀ {xs : List V} {us : List Value}, Vals xs us → xs.all flatV = true → us.any (eqU x) = xs.any fun y => eqV y x
  | _, _, .nil, _ => rfl
  | y :: xs, u :: us, .cons r t, f => by
    rw [List.all_cons, Bool.and_eq_true] at f
    rw [List.any_cons, List.any_cons, eqU_of r f.1, any_eqU t f.2]
theorem mem_eqAt {A : Around} {s : Shared} {x : V} {v : Value} (rx : RelV x v) (fx : flatV x = true) : ∀ {xs : List V} {us : List Value}, Vals xs us → xs.all flatV = true → ∀ u ∈ us, SeqAt.EqAt A s u v (eqU x u)
  | _, _, .nil, _ => fun u hu => by cases hu
  | y :: xs, u :: us, .cons r t, f => fun u' hu => by
    rw [List.all_cons, Bool.and_eq_true] at f
    rcases List.mem_cons.mp hu with rfl | hu
    · rw [eqU_of r f.1]; exact eqAt_V r rx f.1 fx
    · exact mem_eqAt rx fx t f.2 u' hu
def inV (x : V) (xs : List V) : Bool := xs.any fun y => eqV y x
def rIn (K : PySem.W.Frag) (neg : Bool) : R2 := fun x y H Q => ∃ p xs, y = .ref p ∧ (SqL K H p xs ∨ SqT K H p xs) ∧ flatV x = true ∧ xs.all flatV = true ∧ Q (.bl (if neg then !inV x xs else inV x xs)) H
theorem op_in_seq : OpR X (compareOp .In) (rIn X.K false) := by
  intro pins s σ H x y v u Q I rx ry h
  obtain ⟨p, xs, rfl, hq, fx, fs, q⟩ := h
  cases ry
  rcases hq with hq | hq
  · obtain ⟨its, r, pl, hz⟩ := I.list hq
    refine SeqAt.in_listAt (eqU x) pl.isList (fun w hw => mem_eqAt rx fx r fs w (by simpa using hw)) ⟨.bl _, H, I, rfl, ?_⟩
    rw [show its.toArray.any (eqU x) = its.any (eqU x) by simp, any_eqU r fs]
    exact q
  · obtain ⟨its, r, pl, hz⟩ := I.tuple hq
    refine SeqAt.in_tupleAt (eqU x) pl (fun w hw => mem_eqAt rx fx r fs w (by simpa using hw)) ⟨.bl _, H, I, rfl, ?_⟩
    rw [show its.toArray.any (eqU x) = its.any (eqU x) by simp, any_eqU r fs]
    exact q
theorem call_len_seq : CallR X (.builtin "len") (fun xs H Q => ∃ p ys, xs = [.ref p] ∧ (SqL X.K H p ys ∨ SqT X.K H p ys) ∧ Q (.int ys.length) H) := by
  intro pins s σ H xs us Q I r h
  obtain ⟨p, ys, rfl, hq, q⟩ := h
  obtain ⟨u, rfl, rx⟩ := vals1 r
  cases rx
  have hn := line63
  rcases hq with hq | hq
  · obtain ⟨its, r', pl, hz⟩ := I.list hq
    have hlen := r'.length
    exact Calls.call_len_list pl.isList (by simp only [List.size_toArray] <;> omega) ⟨.int ys.length, H, I.tok _, ⟨s.toks + 1, by rw [List.size_toArray, hlen]⟩, q⟩
  · obtain ⟨its, r', pl, hz⟩ := I.tuple hq
    have hlen := r'.length
    exact len_tuple pl (by simp only [List.size_toArray] <;> omega) ⟨.int ys.length, H, I.tok _, ⟨s.toks + 1, by rw [List.size_toArray, hlen]⟩, q⟩
theorem call_len_str : CallR X (.builtin "len") (fun xs H Q => ∃ z, xs = [.str z] ∧ z.length ≤ sizeLine ∧ Q (.int z.length) H) := by
  intro pins s σ H xs us Q I r h
  obtain ⟨z, rfl, hz, q⟩ := h
  obtain ⟨u, rfl, t, rfl⟩ := vals1 r
  have hn := line63
  exact len_str (by omega) ⟨.int z.length, H, I.tok _, ⟨_, rfl⟩, q⟩
theorem CallR.or {f : Value} {r r' : List V → Hp → VK → Prop} (h : CallR X f r) (h' : CallR X f r') : CallR X f (fun xs H Q => r xs H Q ∨ r' xs H Q) := by
  intro pins s σ H xs us Q I rs q
  rcases q with q | q
  · exact h pins s σ H xs us Q I rs q
  · exact h' pins s σ H xs us Q I rs q
theorem call_list_of : CallR X (.type "list") (fun xs H Q => ∃ p ys, xs = [.ref p] ∧ (SqL X.K H p ys ∨ SqT X.K H p ys) ∧ ∀ l, H l = none → Q (.ref l) (upd H l (.lst ys))) := by
  intro pins s σ H xs us Q I r h
  obtain ⟨p, ys, rfl, hq, q⟩ := h
  obtain ⟨u, rfl, rx⟩ := vals1 r
  cases rx
  have fin : ∀ (its : List Value), Vals ys its → ys.length ≤ sizeLine → ∀ (h' : Heap) (c' : Nat), (∀ b o', s.heap.get? b = some o' → h'.get? b = some o') →
      h'.get? s.heap.objs.size = some { cls := .type "list", dict := none, data := .seq its.toArray c', slots := #[] } → EP X pins σ Q (.ref s.heap.objs.size) { s with heap := h' } := fun its r' hz h' c' kp e =>
    ⟨.ref s.heap.objs.size, _, I.laid (t' := s.toks) kp (Nat.le_refl _) (show ObjOk X.prog X.w _ h' _ (.lst ys) from ⟨hz, its, c', r', e⟩), rfl, q _ (I.hok.fresh (Nat.le_refl _))⟩
  rcases hq with hq | hq
  · obtain ⟨its, r', pl, hz⟩ := I.list hq
    have hlen := r'.length
    obtain ⟨o, ho, hc, n, hd⟩ := pl.isList
    exact call_list_seq p (.inl rfl) ho hc hd (fun h' c' kp e => fin its r' hz h' c' kp e) (by simp only [List.size_toArray] <;> omega)
  · obtain ⟨its, r', pl, hz⟩ := I.tuple hq
    have hlen := r'.length
    obtain ⟨o, ho, hc, n, hd⟩ := pl
    exact call_list_seq p (.inr rfl) ho hc hd (fun h' c' kp e => fin its r' hz h' c' kp e) (by simp only [List.size_toArray] <;> omega)
def tyV (K : PySem.W.Frag) (T : String) (x : V) (H : Hp) : Prop := match x with
  | .str _ => T = "str"
  | .int _ => T = "int"
  | .ref p => (T = "list" ∧ ∃ xs, SqL K H p xs) ∨ (T = "tuple" ∧ ∃ o, K.lookup p = some o ∧ o.cls = .type "tuple" ∧ o.dict = none) ∨
      (T = "dict" ∧ ((∃ kvs, H p = some (.dK kvs)) ∨ ∃ kvs, H p = some (.dT kvs))) ∨ (T = "set" ∧ ∃ S n, H p = some (.set S n))
  | _ => False
theorem tyV_is {pins : List (Addr × Obj)} {σ : St} {H : Hp} {s : Shared} {T : String} {x : V} {v : Value} (I : Inv X pins σ H s) (r : RelV x v) (ty : tyV X.K T x H) :
    s.TypeIs v T ∧ ∀ a, v = .ref a → ∃ ob, s.heap.get? a = some ob ∧ ob.dict = none := by
  cases x with
  | str z =>
    obtain ⟨t, rfl⟩ := r
    cases (show T = "str" from ty)
    exact ⟨typeIs_str s z t, fun _ e => nomatch e⟩
  | int i =>
    obtain ⟨t, rfl⟩ := r
    cases (show T = "int" from ty)
    exact ⟨typeIs_int s i t, fun _ e => nomatch e⟩
  | ref p =>
    cases r
    rcases ty with ⟨rfl, xs, hq⟩ | ⟨rfl, o, hk, hc, hd⟩ | ⟨rfl, hk⟩ | ⟨rfl, S, n, hk⟩
    · obtain ⟨its, _, pl, _⟩ := I.list hq
      refine ⟨pl.isList.typeIs, fun a e => ?_⟩
      cases e
      obtain ⟨o, n, e, c, hd, _⟩ := pl
      exact ⟨o, e, hd⟩
    · refine ⟨⟨o, I.kIn p o hk, hc⟩, fun a e => ?_⟩
      cases e
      exact ⟨o, I.kIn _ o hk, hd⟩
    · have z : ∃ o, s.heap.get? p = some o ∧ o.ExactDict := by
        rcases hk with ⟨kvs, hk⟩ | ⟨kvs, hk⟩
        · obtain ⟨_, _, _, _, o, _, _, e, ex, _⟩ := I.hok p _ hk
          exact ⟨o, e, ex⟩
        · obtain ⟨_, _, _, _, o, _, _, e, ex, _⟩ := I.hok p _ hk
          exact ⟨o, e, ex⟩
      obtain ⟨o, e, ex⟩ := z
      refine ⟨⟨o, e, ex.1⟩, fun a e2 => ?_⟩
      cases e2
      exact ⟨o, e, ex.2.1⟩
    · obtain ⟨o, _, _, _, e, ex, _⟩ := I.hok p _ hk
      refine ⟨⟨o, e, ex.1⟩, fun a e2 => ?_⟩
      cases e2
      exact ⟨o, e, ex.2.1⟩
  | _ => exact False.elim ty
def tBM (K : PySem.W.Frag) (T : String) (r : V → List V → Hp → VK → Prop) (to : TE) (t : TA) : TE := fun σ H Q => to σ H fun x H1 => tyV K T x H1 ∧ t σ H1 fun xs H2 => r x xs H2 Q
variable {o e : Expr} {es : List Expr} {to : TE} {t : TA} {name : Str} {apos cpos : Pos} {T id : String} {r : V → List V → Hp → VK → Prop}
theorem pe_bm (pa : PlainAttrs T) (slot : Slot T name id) (hty : typeOf (.builtin id) = pure (.type "method_descriptor")) (hm : MtR X id r) (ho : PE X o to) (ha : PA X (e :: es) t)
    (hbase : attributeBase o name X.env (eval o X.env) = eval o X.env := by rfl)
    (hfew : ((backTo cpos (starEach (e :: es) X.env)).all (fun x => !x.1) && (backToKw cpos (keywordEach [] X.env)).all (fun x => x.1.isSome)
      && decide ((e :: es).length + ([] : List Keyword).length + (if ([] : List Keyword).isEmpty then 0 else 1) < 30)) = true := by rfl)
    (hline : (apos.endLine == cpos.line) = true := by rfl) (hs : starEach (e :: es) X.env = (false, eval e X.env) :: starEach es X.env := by rfl) (hplain : (backTo cpos (starEach es X.env)).any (·.1) = false := by rfl) :
    PE X (.Call (.Attribute o name apos) (e :: es) [] cpos) (tBM X.K T r to t) := by
  intro pins s σ H Q I h
  refine wpAny_Call_method_late hbase hfew hline rfl (thn (ho pins s σ H _ I h) fun v s1 ⟨x, H1, I1, r1, ty, q1⟩ => ?_)
  obtain ⟨h1, h2⟩ := tyV_is I1 r1 ty
  refine ⟨T, id, pa, slot, hty, h1, h2, ?_⟩
  have hA := ha cpos pins s1 σ H1 _ I1 q1
  rw [hs] at hA ⊢
  refine Calls.callWith_builtin (by show (false || (backTo cpos (starEach es X.env)).any (·.1)) = false; rw [hplain] <;> rfl) (Calls.evalArgs_plain ?_)
  exact thn hA fun us s2 ⟨vs, H2, I2, r2, q2⟩ => hm pins s2 σ H2 x vs v us Q I2 r1 r2 q2
/- xs.append(e), list.index on a module's tuple .. are MtR facts of 06m -/
end
end L2

namespace L2
open PySem PySem.Spec PyProof.Rows

def MtM (X : Cx) (id : String) (r : V → List V → Hp → VK → Prop) : Prop :=
  ∀ (pins : List (Addr × Obj)) (s : Shared) (σ : St) (H : Hp) (x : V) (xs : List V) (v : Value) (us : List Value) (Q : VK), Inv X pins σ H s → RelV x v → Vals xs us → r x xs H Q →
    wpAny (model X.prog X.w) X.A (call (.builtin id) (v :: us)) (EP X pins σ Q) X.xe s

theorem Vals.one : ∀ {x : V} {us : List Value}, Vals [x] us → ∃ u, us = [u] ∧ RelV x u
  | _, _, .cons r .nil => ⟨_, rfl, r⟩
theorem Vals.zero : ∀ {us : List Value}, Vals [] us → us = []
  | _, .nil => rfl
theorem Vals.dropLast {xs : List V} {us : List Value} (h : Vals xs us) : Vals xs.dropLast us.dropLast := by
  induction h with
  | nil => exact .nil
  | cons r t ih =>
    cases t with
    | nil => exact .nil
    | cons q t' => exact .cons r ih
theorem Vals.reverse {xs : List V} {us : List Value} (h : Vals xs us) : Vals xs.reverse us.reverse := by
  induction h with
  | nil => exact .nil
  | cons r t ih => rw [List.reverse_cons, List.reverse_cons]; exact Vals.append ih (.cons r .nil)
section
variable {X : Cx} {pins : List (Addr × Obj)} {σ : St} {H : Hp} {s : Shared} {l b : Addr} {xs ys zs : List V}

theorem Inv.lset {its its' : List Value} {n : Nat} {f : Array Value → Array Value} {t' : Nat} (I : Inv X pins σ H s) (hH : H l = some (.lst xs))
    (e : s.heap.get? l = some { cls := .type "list", data := .seq its.toArray n }) (hf : f its.toArray = its'.toArray) (hv : Vals ys its') (hz : ys.length ≤ sizeLine) :
    Inv X pins σ (upd H l (.lst ys)) { s with heap := s.heap.update l (Obj.mapSeq f), toks := t' } := by
  have q := PySem.IsL.update e f
  rw [hf] at q
  refine I.write (x := l) (e := l) (by rw [hH]; exact trivial) (.inl rfl) (fun b' u hb hu => (Heap.get?_update_other s.heap (Obj.mapSeq f) (Ne.symm hb)).trans hu) ⟨_, q⟩ ?_
  exact ⟨hz, its', _, hv, q⟩
theorem Inv.lnew {its : List Value} {t' : Nat} (I : Inv X pins σ H s) (hv : Vals ys its) (hz : ys.length ≤ sizeLine) :
    Inv X pins σ (upd H s.heap.objs.size (.lst ys)) { s with heap := s.heap.push { cls := .type "list", data := .seq its.toArray }, toks := t' } :=
  I.laid (fun _ _ q => Heap.get?_push_of_some _ q) (Nat.le_refl _) ⟨hz, its, 0, hv, Heap.get?_push_size _ rfl⟩
theorem Inv.fresh (I : Inv X pins σ H s) : H s.heap.objs.size = none := I.hok.fresh (Nat.le_refl _)
theorem Inv.lstM (I : Inv X pins σ H s) (hH : H l = some (.lst xs)) : xs.length ≤ sizeLine ∧ ∃ (its : List Value) (n : Nat), Vals xs its ∧ xs.length = its.length ∧ s.heap.get? l = some { cls := .type "list", data := .seq its.toArray n } := by
  obtain ⟨z, its, n, r, e⟩ := I.hok l _ hH
  exact ⟨z, its, n, r, r.length, e⟩

end

section
variable {X : Cx}

def rAppend : V → List V → Hp → VK → Prop := fun x vs H Q => ∃ l xs y, x = .ref l ∧ vs = [y] ∧ H l = some (.lst xs) ∧ xs.length < sizeLine ∧ Q .non (upd H l (.lst (xs ++ [y])))
theorem mt_append : MtM X "list.append" rAppend := by
  intro pins s σ H x vs v us Q I rx rv h
  obtain ⟨l, xs, y, rfl, rfl, hH, hz, q⟩ := h
  cases rx
  obtain ⟨u, rfl, ru⟩ := rv.one
  obtain ⟨z, its, n, r, hl, e⟩ := I.lstM hH
  refine call_meets F.slot_list_append ⟨_, e, rfl⟩ F.entry_list_append (F.args_list_append_2 _ _) (PySem.list_append l its.toArray n u (by rw [List.size_toArray]; omega)) ⟨e, ?_⟩
  refine ⟨.non, _, I.lset (its' := its ++ [u]) hH e (by simp) (r.append (.cons ru .nil)) ?_, rfl, q⟩
  rw [List.length_append, List.length_singleton]
  omega

end

section
variable {prog : Program} {w : World} {A : Around} {E : Value → Shared → Prop} {s : Shared}
end

section
variable {X : Cx}
end
end L2

namespace Att
open PySem PySem.W PySem.Calls PyProof.Rows

theorem ints_of_wellAll {P : Params} {h : Heap} : ∀ (ns : List Int) (vs : List Value), WellAll P h vs (ns.map WData.int) → IntsAre vs ns := by
  intro ns
  induction ns with
  | nil =>
    intro vs w
    rw [List.map_nil] at w
    cases w
    exact .nil
  | cons n ns ih =>
    intro vs w
    rw [List.map_cons] at w
    cases w with
    | cons a b =>
      cases a
      exact .cons _ _ (ih _ b)

theorem script_of {l : OpenLaw} {n : Nat} (hn : l.most = some n) {P : Params} {h : Heap} {args : List WData} {vals : List Value}
    (hpre : l.row.toRowW.claim.pre args = true) (hwl : WellAll P h vals args) :
    ∃ a vs ns, vals = [Value.ref a] ∧ args = [WData.list (ns.map WData.int)] ∧ h.get? a = some { cls := .type "list", data := .seq vs.toArray } ∧ IntsAre vs ns ∧ ns.length ≤ n := by
  have hsh : WShape.hasAll [] args [.list .int] = true := (pre_splitW hpre).1
  have hc : l.pre.holds [] { args := args } = true := (pre_splitW hpre).2
  obtain ⟨d, r, rfl, h1, h2⟩ := hasAllW_cons hsh
  obtain rfl := hasAllW_nil h2
  obtain ⟨xs, rfl, h3⟩ := hasW_list h1
  obtain ⟨ns, rfl⟩ := items_int h3
  have hlen : ns.length ≤ n := by
    unfold OpenLaw.pre at hc
    have h4 : (WTm.not (.lt (.lit (.int (n : Int))) (.len (.arg 0)))).holds [] { args := [.list (ns.map .int)] } = true := by
      have h4 := (holds_andW hc).1
      rw [hn] at h4
      exact h4
    have h5 := condW_of h4 (w_not (w_lt w_lit (w_len_list (w_arg rfl))))
    rw [List.length_map] at h5
    refine Nat.le_of_not_lt fun q => ?_
    have q' : (n : Int) < ((ns.length : Nat) : Int) := by omega
    first
      | (rw [decide_eq_true q'] at h5; exact absurd h5 (by decide))
      | (simp at h5; omega)
  cases hwl with
  | cons w1 w2 =>
    cases w2
    cases w1 with
    | list ho hall => exact ⟨_, _, ns, rfl, rfl, ho, ints_of_wellAll ns _ hall, hlen⟩

theorem post_true (l : OpenLaw) (args : List WData) : l.row.toRowW.claim.post args (.bool true) args = true :=
  postW_of (r := l.row.toRowW) (X := (true == true))
    (show WShape.has [] (.bool true) .bool = true by first | rfl | decide | simp [WShape.has, WShape.arms, WShape.armsAll])
    (show (WTm.eq .res (.lit (.bool true))).value [] { args := args, res := some (.bool true), after := args } = some (.bool (true == true)) from w_eq_bool (w_res rfl) w_lit) rfl

theorem attach_call {l : OpenLaw} {n : Nat} {q : Program} {loose : List Str} {XP : (Str → Option Value) → Heap → Prop} {YP : World → Heap → Prop} {d : DefRec}
    (hn : l.most = some n) (hdf : d.params.defaults = [])
    (call : ∀ (w : World) (s₀ s₁ : Shared) (mg mb : Str → Option Value) (fa : Addr) (o : Obj) (pm cd doc : Value) (a : Addr) (vs : List Value) (ns : List Int),
      Ground q loose [] XP w s₀ mg mb s₁.heap → YP w s₁.heap →
      s₁.heap.get? fa = some o → o.data = .func (docDef d.name d.params d.body d.scope pm cd doc) → s₁.heap.CodeRec cd d.name → mg d.name = some (.ref fa) →
      s₁.heap.get? a = some { cls := .type "list", data := .seq vs.toArray } → IntsAre vs ns → ns.length ≤ n → s₁.gens = #[] →
      codeAny (model l.prog w) callerA (.call (.ref fa) ⟨[.ref a], []⟩) (fun r s' => r = .ok (.ret (.bool true)) ∧ OldK s₁.heap s'.heap ∧ s'.os = s₁.os ∧ AllBare s'.gens) s₁) :
    WalkO q loose XP YP l.row.toRowW d [] (fun f vs => PySem.call f vs) := by
  intro w s₀ s₁ mg mb G Y fa o pm cd doc dV kV ho hd hcd hD hmg hg args vals as hpre hlay hrd hwl hlo
  obtain rfl : dV = .none := Dflts.none hD hdf
  obtain rfl : kV = .none := Dflts.noKw hD
  obtain ⟨a, vs, ns, rfl, rfl, hobj, hints, hlen⟩ := script_of hn hpre hwl
  refine enter_call (codeAny_mono (call w s₀ s₁ mg mb fa o pm cd doc a vs ns G Y ho (fd_plain hd) hcd hmg hobj hints hlen hg) fun r s' hq => ?_)
  obtain ⟨rfl, h2, h3, h4⟩ := hq
  exact ⟨.inl ⟨.bool true, .bool true, [], rfl, fun _ => rfl, .bool true, post_true l _, fun _ => ⟨List.Pairwise.nil, fun _ hm => (nomatch hm)⟩⟩, h2, h3, h4⟩

section
variable {prog : Program} {w : World} {A : Around} {E : Value → Shared → Prop} {s : Shared} {K : Frag}

end
end Att

namespace L2
open PySem PySem.Spec PyProof.Rows

theorem vals_ints : ∀ {vs : List Value} {ns : List Int}, IntsAre vs ns → Vals (ns.map V.int) vs
  | _, _, .nil => .nil
  | _, _, .cons n t h => .cons ⟨t, rfl⟩ (vals_ints h)

def Only (H : Hp) : Prop := ∀ b, H b = none ∨ ∃ o xs, H b = some (.frz o (.lst xs))

theorem law_call {P : Program} {w : World} {K : PySem.W.Frag} {mg mb : Str → Option Value} {CX : CXT} {k : Nat} {fa a : Addr} {fd : FuncData} {x : Str} {sp : Sp} {s₁ : Shared} {vs : List Value} {ns : List Int}
    (KX : K.In s₁.heap) (hns : s₁.heap.Ns mainGlobals mg) (hb : s₁.heap.Ns builtinsNs mb) (hbb : ∀ x : Str, x ≠ "__name__" → mb x = bootBuiltins x) (hlim : s₁.heap.NoLimit) (hg : s₁.gens = #[])
    (ha : s₁.heap.get? a = some { cls := .type "list", data := .seq vs.toArray }) (hi : IntsAre vs ns) (hl : ns.length ≤ sizeLine) (hr : Room k callerA)
    (F : ∀ base : Heap, K.In base → base.Ns mainGlobals mg → FnOk P w K mg base CX k fa fd [x] sp) (hbind : ∀ (s : Shared) (u : Value), BindsTo s fd ⟨[u], []⟩ [(x, u)])
    (hsp : ∀ H : Hp, Only H → SqL K H a (ns.map V.int) → sp [.ref a] H (fun v _ => v = .bl true) fun _ _ _ => False)
    (hCX : ∀ H e s', CX [] H s₁ (fun _ _ _ => False) e s' → False) :
    codeAny (model P w) callerA (.call (.ref fa) ⟨[.ref a], []⟩) (fun r s' => r = .ok (.ret (.bool true)) ∧ OldK s₁.heap s'.heap ∧ s'.os = s₁.os ∧ AllBare s'.gens) s₁ := by
  have rv := vals_ints hi
  have lenV := hi.length
  -- from an abstract heap in which nothing but the script may be tracked
  have core : ∀ H : Hp, Only H → SqL K H a (ns.map V.int) → HOk P w H s₁.heap → (∀ b, H b ≠ none → b = a) → (H a ≠ none → K.lookup a = none) →
      codeAny (model P w) callerA (.call (.ref fa) ⟨[.ref a], []⟩) (fun r s' => r = .ok (.ret (.bool true)) ∧ OldK s₁.heap s'.heap ∧ s'.os = s₁.os ∧ AllBare s'.gens) s₁ := by
    intro H hO hS hok hA hK
    have base_of : ∀ {b : Addr} {o : Obj}, s₁.heap.get? b = some o → H b = none → (hidT s₁.heap H).get? b = some o := fun e n => hidT_get e n
    have noA : ∀ {b : Addr} {o : Obj} {es : Array DictEntry} {ep : Nat}, s₁.heap.get? b = some o → o.data = .dict es ep → H b = none := fun {b o es ep} e d => by
      cases q : H b with
      | none => rfl
      | some u =>
        have e' : b = a := hA b (by rw [q]; simp)
        subst e'
        rw [ha] at e; cases e
        have d' : Data.seq vs.toArray _ = Data.dict es ep := d
        cases d'
    have nsK : ∀ {b : Addr} {m : Str → Option Value}, s₁.heap.Ns b m → (hidT s₁.heap H).Ns b m := fun {b m} ⟨o, es, ep, e, d, r⟩ => ⟨o, es, ep, base_of e (noA e d), d, r⟩
    have hKb : K.In (hidT s₁.heap H) := fun b o e => base_of (KX b o e) (by
      cases q : H b with
      | none => rfl
      | some u =>
        have e' : b = a := hA b (by rw [q]; simp)
        subst e'
        rw [hK (by rw [q]; simp)] at e; cases e)
    have hM : Mod K mg (hidT s₁.heap H) := ⟨hKb, nsK hns, ⟨mb, nsK hb, hbb⟩, let ⟨mc, h1, h2⟩ := hlim; ⟨mc, nsK h1, h2⟩⟩
    have e0 : Env0 P w K mg (hidT s₁.heap H) callerA [] s₁ H := ⟨rfl, hM, fun b o e => of_hidT e, Nat.le_of_eq (hidT_size _ _), trivial, fun b hb => absurd (show b ∈ ([] : List Addr) from hb) (by simp), hok, .of_eq hg⟩
    refine codeAny_mono ((F _ hKb (nsK hns)).run callerA [] s₁ H ⟨[.ref a], []⟩ [.ref a] [.ref a] _ _ hr e0 (hbind s₁ (.ref a)) (.cons rfl .nil) (hsp H hO hS)) fun r s' h => ?_
    cases r with
    | error e => exact (hCX H e s' h).elim
    | ok fl =>
      cases fl with
      | next => exact False.elim h
      | brk => exact False.elim h
      | cont => exact False.elim h
      | ret u =>
        obtain ⟨v, H', os, bare, un, hok', r', q⟩ := h
        have q' : v = .bl true := q
        subst q'
        obtain rfl : u = Value.bool true := r'
        refine ⟨rfl, OldK.of_keep fun b o e => ?_, os, bare⟩
        cases q : H b with
        | none => exact un.keep b o e q (by intro z; exact absurd (show b ∈ ([] : List Addr) from z) (by simp)) (by simp)
        | some u =>
          rcases hO b with z | ⟨ob, xs, z⟩
          · rw [q] at z; cases z
          · have z2 := un.frzs b ob _ z
            obtain ⟨e1, _⟩ := hok b _ z
            obtain ⟨e2, _⟩ := hok' b _ z2
            rw [e] at e1; cases e1
            exact e2
  cases hk : K.lookup a with
  | some o =>
    -- the script is one of the module's own objects
    have e := KX a o hk
    rw [ha] at e
    cases e
    refine core (fun _ => none) (fun _ => .inl rfl) (.inr ⟨_, vs.toArray, _, hk, rfl, rfl, rfl, by rw [List.size_toArray, lenV]; exact hl, by simpa using rv⟩) (fun b u z => by have z' : (none : Option HO) = some u := z; cases z') (fun b z => absurd rfl z) fun z => absurd rfl z
  | none =>
    refine core (fun b => if b = a then some (.frz { cls := .type "list", data := .seq vs.toArray } (.lst (ns.map V.int))) else none) (fun b => ?_) (.inl (.inr ⟨{ cls := .type "list", data := .seq vs.toArray }, if_pos rfl⟩)) (fun b u z => ?_) (fun b z => ?_) fun _ => hk
    · by_cases hb : b = a
      · exact .inr ⟨_, _, if_pos hb⟩
      · exact .inl (if_neg hb)
    · by_cases hb : b = a
      · have z' := (if_pos hb).symm.trans z
        cases z'
        subst hb
        exact ⟨ha, by rw [List.length_map]; exact hl, vs, _, rv, ha⟩
      · have z' := (if_neg hb).symm.trans z
        cases z'
    · by_cases hb : b = a
      · exact hb
      · exact absurd (if_neg hb) z
end L2

namespace L2
open PySem PySem.Spec PyProof.Rows

abbrev KOf {K : PySem.W.Frag} {h : Heap} (_ : K.In h) : PySem.W.Frag := K

theorem walk_of {l : PySem.W.OpenLaw} {n k : Nat} {q : Program} {loose : List Str} {XP : (Str → Option Value) → Heap → Prop} {YP : World → Heap → Prop} {d : DefRec} {K : Params → PySem.W.Frag} {CX : World → CXT} {sp : World → Sp} {x : Str}
    (hn : l.most = some n) (hn2 : n ≤ sizeLine) (hdf : d.params.defaults = []) (hr : Room k callerA)
    (hY : ∀ (w : World) (h : Heap), YP w h → (K w.params).In h)
    (F : ∀ (w : World) (mg : Str → Option Value) (fa : Addr) (h : Heap), (K w.params).In h → h.Ns mainGlobals mg → mg d.name = some (.ref fa) →
      ∃ fd : FuncData, (∀ (s : Shared) (u : Value), BindsTo s fd ⟨[u], []⟩ [(x, u)]) ∧
        ∀ base : Heap, (K w.params).In base → base.Ns mainGlobals mg → FnOk l.prog w (K w.params) mg base (CX w) k fa fd [x] (sp w))
    (hsp : ∀ (w : World) (H : Hp) (a : Addr) (ns : List Int), ns.length ≤ n → Only H → SqL (K w.params) H a (ns.map V.int) → sp w [.ref a] H (fun v _ => v = .bl true) fun _ _ _ => False)
    (hCX : ∀ (w : World) (H : Hp) (s : Shared) (e : Value) (s' : Shared), CX w [] H s (fun _ _ _ => False) e s' → False) :
    PySem.W.WalkO q loose XP YP l.row.toRowW d [] (fun f vs => PySem.call f vs) := by
  refine Att.attach_call hn hdf fun w s₀ s₁ mg mb fa o pm cd doc a vs ns G Y ho hd hcd hmg hobj hints hlen hg => ?_
  have KX := hY w _ Y
  obtain ⟨fd, hb, hF⟩ := F w mg fa _ KX G.T.g hmg
  exact law_call KX G.T.g G.T.b G.T.builtins G.T.nolimit hg hobj hints (Nat.le_trans hlen hn2) hr hF hb (fun H hO hS => hsp w H a ns hlen hO hS) fun H e s' => hCX w H s₁ e s'
end L2

/- THE LAST THEOREM (shape; LID, My.* are yours):
   My.Adr: a structure of the addresses that your layer names (classes, functions); My.Txt K t: a structure (Prop) of the equations over K;
   My.txt_mk : {K} {implicit addresses ..} (e1 : nsIn K mainGlobals "law" = some (some (.ref f))) (e2 : K.lookup f = some ⟨oc, od, .func (fnOf "law" "law" params body scope dV kV doc pm an cdv ct), sl⟩) (e3 : codeIn K cdv "law" = true) .. : ∃ t, My.Txt K t

set_option maxRecDepth 100000 in
set_option maxHeartbeats 0 in
theorem PySem.Challenge.cw_LID_holds : PySem.Challenge.rw_LID.Holds := by
  w_on; o_law; k_head; (case hw => w_witness2)
  k_fill
  refine L2.walk_of (l := PySem.Challenge.rw_LID) (n := 63) (k := 40) (x := "script") (CX := fun w => ..) (sp := fun _ => My.sp_law) rfl (by decide) rfl ⟨rfl, by decide, by decide⟩ (fun w h Y => PySem.W.kIn_of Y) ?F ?S ?C
  case F =>
    intro w mg fa h KX G hmg
    have T : ∃ t, My.Txt (L2.KOf KX) t := by
      dsimp only [L2.KOf]                          -- K must stand as «<heap const> w.params» for k_is
      refine' My.txt_mk ?e1 ?e2 ?e3 ..
      (case e1 => PySem.W.k_is)                    -- in the order: a name -> its address -> its object -> its parts
      (case e2 => PySem.W.k_is)
      ..
    obtain ⟨t, T⟩ := T
    have e0 := hmg.symm.trans (PySem.W.mg_of KX G T.law)
    cases e0                                       -- fa is the law's own address
    exact ⟨_, fun s u => .of_eq rfl, fun base kb nb => My.law_fn T kb nb⟩     -- if «.of_eq rfl» comes too early: refine' ⟨_, ?b, fun base kb nb => My.law_fn T kb nb⟩; exact fun s u => .of_eq rfl
  case S => exact fun w H a ns hl hO hS => ..
  case C => exact ..
(the tactic k_is has no namespace: write k_is) -/

namespace L2
open PySem PySem.Spec PyProof.Rows

def defArgs (s : Stmt) : Arguments := match s with
  | .FunctionDef _ a _ _ _ _ _ _ _ _ => a
  | _ => { posonlyargs := [], args := [], vararg := none, kwonlyargs := [], kw_defaults := [], kwarg := none, defaults := [] }
def defBody (s : Stmt) : List Stmt := match s with
  | .FunctionDef _ _ b _ _ _ _ _ _ _ => b
  | _ => []
def defScope (s : Stmt) : Scope := match s with
  | .FunctionDef _ _ _ _ _ _ sc _ _ _ => sc
  | _ => { kind := .function, names := [], isGenerator := false, isCoroutine := false }

abbrev CX0 : CXT := fun _ _ _ _ _ _ => False
abbrev E0 : XK := fun _ _ _ => False
theorem pass0 {X : Cx} : Passes CX0 X E0 := fun _ _ _ _ _ _ _ h => h.elim

structure Fun (K : PySem.W.Frag) (x qual : Str) (st : Stmt) (f : Addr) (fd : FuncData) : Prop where
  ex : ∃ (oc : Value) (od : Option Addr) (kV doc pm : Value) (an : Option Addr) (cdv ct : Value) (osl : Array (Option Value)),
    fd = PySem.W.fnOf x qual (defArgs st) (defBody st) (defScope st) .none kV doc pm an cdv ct ∧ K.lookup f = some ⟨oc, od, .func fd, osl⟩ ∧ PySem.W.codeIn K cdv qual = true
  kp : PySem.W.keepIn K (.ref f) = true
section
variable {P : Program} {w : World} {K : PySem.W.Frag} {mg : Str → Option Value} {base : Heap}
theorem Fun.ok {x qual : Str} {st : Stmt} {f : Addr} {fd : FuncData} {N ps : List Str} {k : Nat} {sp : Sp} (F : Fun K x qual st f fd) (S : FnScope N ps (defScope st)) (len : ∀ vs H Q E, sp vs H Q E → vs.length = ps.length)
    (hbody : ∀ (cdv : Value) (A : Around) (outer : List Env) (s : Shared) (H : Hp) (vs : List V) (Q : VK) (E : XK), Room k (A.deeper (envOfC qual (defScope st) s.heap.objs.size f cdv)) → sp vs H Q E →
      ∃ t, PSs (cxOf CX0 P w K mg base N qual (defScope st) f cdv A outer s H E).nox (defBody st) t ∧ t { nx := fun _ H' => Q .non H', rt := Q } (start N vs) H) : FnOk P w K mg base CX0 (k + 1) f fd ps sp := by
  obtain ⟨oc, od, kV, doc, pm, an, cdv, ct, osl, rfl, lk, hcd⟩ := F.ex
  refine fn_of lk hcd S len fun A outer s H vs Q E hr hsp => ?_
  obtain ⟨t, h, q⟩ := hbody cdv A outer s H vs Q E hr hsp
  exact ⟨t, h.nox, q⟩
theorem Fun.binds {x qual : Str} {st : Stmt} {f : Addr} {fd : FuncData} {ps : List Str} (F : Fun K x qual st f fd)
    (h : ∀ (kV doc pm : Value) (an : Option Addr) (cdv ct : Value) (us : List Value), us.length = ps.length → bindArgs (PySem.W.fnOf x qual (defArgs st) (defBody st) (defScope st) .none kV doc pm an cdv ct) ⟨us, []⟩ = pure (ps.zip us)) : Binds K fd ps [] := by
  obtain ⟨oc, od, kV, doc, pm, an, cdv, ct, osl, rfl, lk, hcd⟩ := F.ex
  exact .all (h kV doc pm an cdv ct)
theorem fun_mk {x qual : Str} {st : Stmt} {f : Addr} {oc : Value} {od an : Option Addr} {osl : Array (Option Value)} {kV doc pm cdv ct : Value} (l : K.lookup f = some ⟨oc, od, .func (PySem.W.fnOf x qual (defArgs st) (defBody st) (defScope st) .none kV doc pm an cdv ct), osl⟩)
    (c : PySem.W.codeIn K cdv qual = true) (k : PySem.W.keepIn K (.ref f) = true) : Fun K x qual st f (PySem.W.fnOf x qual (defArgs st) (defBody st) (defScope st) .none kV doc pm an cdv ct) := ⟨⟨oc, od, kV, doc, pm, an, cdv, ct, osl, rfl, l, c⟩, k⟩
end
section
variable {X : Cx}
theorem pv (i : Nat) {x : Str} {pos : Pos} (hN : X.N[i]? = some x := by rfl) (hv : Vis X.env.scope x := by first | exact Or.inl rfl | exact Or.inr (Or.inl rfl) | exact Or.inr (Or.inr rfl)) (hd : (x == ("__debug__" : Str)) = false := by decide)
    (hcd : (x == ("__classdict__" : Str)) = false := by decide) : PE X (.Name x pos) (tVar i) := pe_var hN hv hd hcd
end

theorem iteF {A B : Prop} (h : B) : if false = true then A else B := by
  rw [if_neg Bool.false_ne_true]
  exact h
theorem iteT {A B : Prop} (h : A) : if true = true then A else B := by
  rw [if_pos rfl]
  exact h
def Same (H H' : Hp) : Prop := ∀ b o, H b = some o → H' b = some o
theorem Same.refl (H : Hp) : Same H H := fun _ _ h => h
theorem Same.trans {H H1 H2 : Hp} (a : Same H H1) (b : Same H1 H2) : Same H H2 := fun c o h => b c o (a c o h)
theorem Same.free {H H' : Hp} (e : Same H H') {l : Addr} (h : H' l = Option.none) : H l = Option.none := by
  cases q : H l with
  | none => rfl
  | some o =>
    rw [e l o q] at h
    cases h
theorem Same.seq {K : PySem.W.Frag} {H H' : Hp} {a : Addr} {xs : List V} (e : Same H H') (h : SqL K H a xs) : SqL K H' a xs := by
  rcases h with (h | ⟨o, h⟩) | h
  · exact .inl (.inl (e _ _ h))
  · exact .inl (.inr ⟨o, e _ _ h⟩)
  · exact .inr h

end L2

set_option Elab.async false
set_option linter.all false
set_option maxRecDepth 100000
namespace L2
open PySem PySem.Spec PyProof.Rows

def clOf (cells : List (Str × Addr)) : List (Str × NameKind) → List (Str × Addr) → List (Str × Addr)
  | [], cs => cs
  | (n, k) :: r, cs => if k = .free then (match cells.lookup n with | some c => clOf cells r ((n, c) :: cs) | none => clOf cells r cs) else clOf cells r cs

theorem closure_run {env : Env} : ∀ (names : List (Str × NameKind)) (cs : List (Str × Addr)), (∀ x ∈ names, x.2 = .free → ∃ c, env.cells.lookup x.1 = some c) →
    (forIn names cs fun x r => if (x.2 == NameKind.free) = true then do let c ← cellOf env x.1; pure (ForInStep.yield ((x.1, c) :: r)) else pure (ForInStep.yield r) : Sem (List (Str × Addr))) = pure (clOf env.cells names cs)
  | [], cs, _ => rfl
  | (n, k) :: r, cs, h => by
    have hr : ∀ x ∈ r, x.2 = .free → ∃ c, env.cells.lookup x.1 = some c := fun x hx => h x (List.mem_cons_of_mem _ hx)
    rw [List.forIn_cons]
    by_cases hk : k = .free
    · subst hk
      obtain ⟨c, hc⟩ := h (n, .free) List.mem_cons_self rfl
      have hc' : env.cells.lookup n = some c := hc
      have e : cellOf env n = pure c := by unfold cellOf; rw [hc']
      simp only [beq_self_eq_true, if_true, e, pure_bind]
      rw [closure_run r _ hr]
      simp only [clOf, if_true, hc']
    · have hb : (k == NameKind.free) = false := by simpa using hk
      simp only [hb, Bool.false_eq_true, if_false, pure_bind]
      rw [closure_run r cs hr]
      simp only [clOf, hk, if_false]
theorem closureFor_clOf {env : Env} {scope : Scope} (h : ∀ x ∈ scope.names, x.2 = .free → ∃ c, env.cells.lookup x.1 = some c) : closureFor scope env = pure (clOf env.cells scope.names []) := by
  have q := closure_run (env := env) scope.names [] h
  simp only [closureFor]
  refine Eq.trans ?_ q
  have e : ∀ (m : Sem (List (Str × Addr))), (m >>= fun cs => pure cs) = m := fun m => by simp
  first | (rw [e]; rfl) | rfl | simp
theorem clOf_sub {cells : List (Str × Addr)} {x : Str} {c : Addr} : ∀ (names : List (Str × NameKind)) (cs : List (Str × Addr)), (∀ y d, cs.lookup y = some d → cells.lookup y = some d) → (clOf cells names cs).lookup x = some c → cells.lookup x = some c
  | [], cs, h, e => h x c e
  | (n, k) :: r, cs, h, e => by
    unfold clOf at e
    split at e
    · split at e
      · rename_i d hd
        refine clOf_sub r _ (fun y d' q => ?_) e
        rw [List.lookup_cons] at q
        split at q
        · rename_i hy
          have : y = n := by simpa using hy
          subst this
          cases q; exact hd
        · exact h y d' q
      · exact clOf_sub r cs h e
    · exact clOf_sub r cs h e
theorem clOf_mono {cells : List (Str × Addr)} {x : Str} : ∀ (names : List (Str × NameKind)) (cs : List (Str × Addr)), (cs.lookup x).isSome = true → ((clOf cells names cs).lookup x).isSome = true
  | [], cs, h => h
  | (n, k) :: r, cs, h => by
    unfold clOf
    split
    · split
      · refine clOf_mono r _ ?_
        rw [List.lookup_cons]; split
        · rfl
        · exact h
      · exact clOf_mono r cs h
    · exact clOf_mono r cs h
theorem clOf_has {cells : List (Str × Addr)} {x : Str} {c : Addr} (hc : cells.lookup x = some c) : ∀ (names : List (Str × NameKind)) (cs : List (Str × Addr)), (x, NameKind.free) ∈ names → ((clOf cells names cs).lookup x).isSome = true
  | [], cs, h => absurd h (by simp)
  | (n, k) :: r, cs, h => by
    unfold clOf
    rcases List.mem_cons.mp h with e | h
    · cases e
      rw [if_pos rfl, hc]
      refine clOf_mono r _ ?_
      simp [List.lookup_cons]
    · split
      · split
        · exact clOf_has hc r _ h
        · exact clOf_has hc r cs h
      · exact clOf_has hc r cs h

theorem lookup_relabel_free {env : Env} : ∀ {names : List (Str × NameKind)} {x : Str}, names.lookup x = some .free →
    (names.map fun (n, k) => if (k == NameKind.free && env.scope.kind == .function && env.kindOf n == some .cell) then (n, NameKind.cell) else (n, k)).lookup x = some .cell ∨
    (names.map fun (n, k) => if (k == NameKind.free && env.scope.kind == .function && env.kindOf n == some .cell) then (n, NameKind.cell) else (n, k)).lookup x = some .free
  | [], _, h => by simp at h
  | (n, k) :: r, x, h => by
    have ih := @lookup_relabel_free env r x
    show List.lookup x ((if (k == NameKind.free && env.scope.kind == .function && env.kindOf n == some .cell) = true then (n, NameKind.cell) else (n, k)) :: _) = _ ∨ List.lookup x ((if (k == NameKind.free && env.scope.kind == .function && env.kindOf n == some .cell) = true then (n, NameKind.cell) else (n, k)) :: _) = _
    by_cases hc : (k == NameKind.free && env.scope.kind == .function && env.kindOf n == some .cell) = true
    · rw [if_pos hc]
      cases hx : x == n with
      | true => left; simp only [List.lookup_cons, hx]
      | false => simp only [List.lookup_cons, hx] at h ⊢; exact ih h
    · rw [if_neg hc]
      cases hx : x == n with
      | true => right; simp only [List.lookup_cons, hx] at h ⊢; exact h
      | false => simp only [List.lookup_cons, hx] at h ⊢; exact ih h
theorem relabel_free_mem {env : Env} : ∀ {names : List (Str × NameKind)} {x : Str} {k : NameKind}, (∀ y ∈ names, y.2 ≠ .cell) →
    (names.map fun (n, k) => if (k == NameKind.free && env.scope.kind == .function && env.kindOf n == some .cell) then (n, NameKind.cell) else (n, k)).lookup x = some k → (k = .cell ∨ k = .free) → (x, NameKind.free) ∈ names
  | [], _, _, _, h, _ => by simp at h
  | (n, k') :: r, x, k, hc0, h, hk => by
    have ih := @relabel_free_mem env r x k (fun y hy => hc0 y (List.mem_cons_of_mem _ hy))
    have h : List.lookup x ((if (k' == NameKind.free && env.scope.kind == .function && env.kindOf n == some .cell) = true then (n, NameKind.cell) else (n, k')) :: _) = _ := h
    by_cases hc : (k' == NameKind.free && env.scope.kind == .function && env.kindOf n == some .cell) = true
    · rw [if_pos hc] at h
      have hf : k' = .free := by
        have := hc; simp only [Bool.and_eq_true] at this; simpa using this.1.1
      cases hx : x == n with
      | true =>
        have hxn : x = n := by simpa using hx
        subst hxn; subst hf; exact List.mem_cons_self
      | false => simp only [List.lookup_cons, hx] at h; exact List.mem_cons_of_mem _ (ih h hk)
    · rw [if_neg hc] at h
      cases hx : x == n with
      | true =>
        have hxn : x = n := by simpa using hx
        subst hxn
        simp only [List.lookup_cons, hx] at h
        have e : k' = k := Option.some.inj h
        subst e
        rcases hk with hk | hk
        · exact absurd hk (hc0 _ List.mem_cons_self)
        · subst hk; exact List.mem_cons_self
      | false => simp only [List.lookup_cons, hx] at h; exact List.mem_cons_of_mem _ (ih h hk)
end L2

set_option Elab.async false
set_option linter.all false
set_option maxRecDepth 100000
namespace L2
open PySem PySem.Spec PyProof.Rows

structure Blk (X : Cx) (sc : Scope) (N : List Str) (src : List (Option Nat)) : Prop where
  kind : sc.kind = .function
  nocell : ∀ y ∈ sc.names, y.2 ≠ .cell
  names : ∀ y ∈ sc.names, y.2 = .local → sc.names.lookup y.1 = some .local
  free : ∀ y ∈ sc.names, y.2 = .free → X.env.kindOf y.1 = some .cell ∨ X.env.kindOf y.1 = some .free
  fv : ∀ (j i : Nat), src[j]? = some (some i) → ∃ x, N[j]? = some x ∧ X.N[i]? = some x ∧ sc.names.lookup x = some .free
  len : src.length = N.length

def blk0 (src : List (Option Nat)) (σ : St) : St := src.map fun o => o.bind fun i => (σ[i]?).join

def blkCx (X : Cx) (sc : Scope) (C : Addr) (N : List Str) (fp : List Addr) (s : Shared) (H : Hp) : Cx where
  prog := X.prog
  w := X.w
  K := X.K
  mg := X.mg
  base := X.base
  A := X.A
  N := N
  s₀ := s
  H₀ := H
  env := compEnvC sc (clOf X.env.cells sc.names []) C X.env
  outer := X.stack
  stack := X.stack
  ex := fp
  fn := fun _ => false
  calm := true
  pn := []
  xe := fun _ _ => False

section
variable {X : Cx} {pins : List (Addr × Obj)} {σ : St} {H : Hp} {s : Shared}

theorem Blk.cl {sc : Scope} {N : List Str} {src : List (Option Nat)} (B : Blk X sc N src) (ok : X.Ok) : closureFor sc X.env = pure (clOf X.env.cells sc.names []) :=
  closureFor_clOf fun x hx hk => ok.has x.1 (B.free x hx hk)
theorem cl_sub {sc : Scope} {x : Str} {c : Addr} (h : (clOf X.env.cells sc.names []).lookup x = some c) : X.env.cells.lookup x = some c :=
  clOf_sub sc.names [] (fun y d e => by simp at e) h

theorem blk_start {sc : Scope} {N : List Str} {src : List (Option Nat)} {fp : List Addr} {D C : Addr} {h4 : Heap} {t : Nat} {m : Str → Option Value}
    (B : Blk X sc N src) (I : Inv X pins σ H s) (hc : X.calm = true) (hf : ∀ b ∈ fp, FpOk X pins H b) (hfo : ∀ b ∈ fp, ∃ o, s.heap.get? b = some o)
    (hk : ∀ b o, s.heap.get? b = some o → h4.get? b = some o) (hD : s.heap.objs.size ≤ D) (hDl : h4.get? D = some { cls := .type "list", data := .seq #[] 0 })
    (hn : h4.Ns C m) (hC : s.heap.objs.size ≤ C) (hDC : D ≠ C) :
    Inv (blkCx X sc C N fp s H) [] (blk0 src σ) (upd H D (.lst [])) { s with heap := h4, toks := t } := by
  have hHD : H D = none := I.hok.fresh hD
  have hHC : H C = none := I.hok.fresh hC
  have new : ObjOk X.prog X.w (upd H D (.lst [])) h4 D (.lst []) := ⟨Nat.zero_le _, [], 0, .nil, hDl⟩
  have cC : ∀ x c, X.env.cells.lookup x = some c → c ≠ C := fun x c e z => by
    obtain ⟨v, q⟩ := I.cell x c e
    exact absurd (Nat.lt_of_lt_of_le q.lt (by rw [z]; exact hC)) (Nat.lt_irrefl _)
  have cD : ∀ x c, X.env.cells.lookup x = some c → c ≠ D := fun x c e z => by
    obtain ⟨v, q⟩ := I.cell x c e
    exact absurd (Nat.lt_of_lt_of_le q.lt (by rw [z]; exact hD)) (Nat.lt_irrefl _)
  refine ⟨⟨I.ok.mod, ?_, I.ok.glob, I.ok.blt, hC, fun x y c h1 h2 => ?_, fun x hx => ?_, fun x c h _ => (by cases h), fun _ => I.ok.hd hc, I.ok.frames, .inl rfl, fun b hb => ⟨?_, fun x c e => ?_⟩, I.bs, Nat.le_trans I.ok.bsz I.sz, fun b o e hb => ?_, fun b hb z => ?_, I.stack, I.stkFree⟩,
    rfl, I.bare, Un.laid hk hD hHD, ⟨m, hn, fun i x v e1 e2 e3 => ?_⟩, fun x c e => ?_, ?_, fun x c e => ?_, fun p hp => ?_, I.hok.laid hk hD new, ?_⟩
  · show (relabel sc X.env).kind = _
    exact B.kind
  · exact I.ok.inj x y c (cl_sub h1) (cl_sub h2)
  · have hx' : (∃ k, (relabel sc X.env).names.lookup x = some k ∧ (k = .cell ∨ k = .free)) := by
      rcases hx with hx | hx
      · exact ⟨_, hx, .inl rfl⟩
      · exact ⟨_, hx, .inr rfl⟩
    obtain ⟨k, e, hk'⟩ := hx'
    have hm := relabel_free_mem B.nocell e hk'
    obtain ⟨c, hc'⟩ := I.ok.has x (B.free _ hm rfl)
    exact Option.isSome_iff_exists.mp (clOf_has hc' sc.names [] hm)
  · obtain ⟨o, e⟩ := hfo b hb
    exact Nat.ne_of_lt (Nat.lt_of_lt_of_le (Heap.lt_size e) hC)
  · exact (hf b hb).2.2.2.2.1 x c (cl_sub e)
  · rcases (hf b hb).2.2.2.1 with z | z
    · exact I.ok.noex b o e z
    · exact absurd (Nat.lt_of_lt_of_le (Heap.lt_size e) (Nat.le_trans I.ok.bsz z)) (Nat.lt_irrefl _)
  · rcases List.mem_cons.mp (I.stkSub b z) with z | z
    · exact (hf b hb).2.1 z
    · exact (hf b hb).2.2.1 z
  · have e2' : ∃ k, src[i]? = some (some k) ∧ σ[k]? = some (some v) := by
      unfold blk0 at e2
      rw [List.getElem?_map] at e2
      cases q : src[i]? with
      | none => rw [q] at e2; cases e2
      | some o =>
        rw [q] at e2
        cases o with
        | none => cases e2
        | some k =>
          refine ⟨k, rfl, ?_⟩
          have e2 : (σ[k]?).join = some v := Option.some.inj e2
          cases qq : σ[k]? with
          | none => rw [qq] at e2; cases e2
          | some z => rw [qq] at e2; exact congrArg some e2
    obtain ⟨k, ek, ev⟩ := e2'
    obtain ⟨x', n1, n2, n3⟩ := B.fv i k ek
    have : x' = x := by
      have e1 : N[i]? = some x := e1
      rw [n1] at e1; exact Option.some.inj e1
    subst this
    obtain ⟨m0, hn0, hl0⟩ := I.loc
    have hfk := B.free (x', .free) (PySem.mem_of_lookup n3) rfl
    obtain ⟨u, r, l⟩ := hl0 k x' v n2 ev (by rcases hfk with z | z; exact .inr (.inl z); exact .inr (.inr z))
    refine ⟨u, r, .inr ⟨?_, ?_⟩⟩
    · exact lookup_relabel_free n3
    · rcases l with ⟨l, _⟩ | ⟨_, c, ec, z⟩
      · rcases hfk with q | q <;> (rw [q] at l; cases l)
      · obtain ⟨c', ec'⟩ := Option.isSome_iff_exists.mp (clOf_has ec sc.names [] (PySem.mem_of_lookup n3))
        have := cl_sub ec'
        rw [ec] at this; cases this
        obtain ⟨o, ho, hd⟩ := z
        exact ⟨c, ec', o, hk c o ho, hd⟩
  · obtain ⟨v, o, ho, hd⟩ := I.cell x c (cl_sub e)
    exact ⟨v, o, hk c o ho, hd⟩
  · show upd H D _ C = none
    rw [upd_ne (Ne.symm hDC)]; exact hHC
  · rw [upd_ne (cD x c (cl_sub e))]; exact I.freeC x c (cl_sub e)
  · exact absurd (show p ∈ ([] : List (Addr × Obj)) ++ [] from hp) (by simp)
  · show (blk0 src σ).length = N.length
    unfold blk0; rw [List.length_map]; exact B.len
end
end L2

set_option Elab.async false
set_option linter.all false
set_option maxRecDepth 100000
namespace L2
open PySem PySem.Spec PyProof.Rows

abbrev noE : Value → Shared → Prop := fun _ _ => False

theorem toE {α : Type} {t : Sem α} {Q Q' : α → Shared → Prop} {M : Model} {A : Around} {E : Value → Shared → Prop} {s : Shared} (h : wpAny M A t Q noE s) (hQ : ∀ a s, Q a s → Q' a s) : wpAny M A t Q' E s :=
  wpAny_mono h hQ fun _ _ x => x.elim

abbrev compTests (ifs : List Expr) (env : Env) : Sem Bool := forIn ifs true fun c r => if r = true then do let ok ← isTrue c env (eval c env); pure (ForInStep.yield ok) else pure (ForInStep.yield r)

theorem compLoop_any {prog : Program} {w : World} {A : Around} {R : Result → Shared → Prop} {s : Shared} {elt target iter : Expr} {ifs : List Expr} {scope : Scope} {pos : Pos} {it acc : Value} {env : Env} (I : Nat → Shared → Prop)
    (turn : ∀ n s, I n s → wpAny (model prog w) A (pyNext it) (fun r s₁ => match r with
      | none => R (.ok .next) s₁
      | some v => wpAny (model prog w) A (letOwnedTupleGo target it v) (fun _ s₁' => wpAny (model prog w) A (assign target env v) (fun _ s₂ =>
          wpAny (model prog w) A (compTests ifs env) (fun ok s₃ =>
            if ok = true then wpAny (model prog w) A (eval elt env) (fun x s₄ =>
              wpAny (model prog w) A (call (.builtin "list.append") [acc, x]) (fun _ s₅ => ∃ m, m < n ∧ I m s₅) noE s₄) noE s₃
            else ∃ m, m < n ∧ I m s₃) noE s₂) noE s₁') noE s₁) noE s)
    (n : Nat) (h : I n s) :
    codeAny (model prog w) A (.compLoop (.ListComp elt [⟨target, iter, ifs, 0⟩] scope pos) 0 it acc env) R s := by
  refine codeAny_loop rfl I (fun n s hI => ?_) n h
  show wpAny _ A ((compTurn (.ListComp elt [⟨target, iter, ifs, 0⟩] scope pos) 0 it acc env).onRaise (fun x => do noteFrame x env; theTreesLotGoes x)) _ _ s
  refine wpAny_noted ?_
  rw [compTurn_list]
  refine wpAny_bind (wpAny_standAt (wpAny_bind (toE (turn n s hI) (fun r s₁ h₁ => ?_))))
  cases r with
  | none => exact wpAny_pure h₁
  | some v =>
    refine wpAny_bind (toE h₁ fun _ s₁' h₁' => ?_)
    refine wpAny_bind (toE h₁' (fun _ s₂ h₂ => wpAny_bind (toE h₂ (fun ok s₃ h₃ => ?_))))
    cases ok with
    | false => exact wpAny_pure ⟨rfl, h₃⟩
    | true =>
      exact wpAny_bind (wpAny_bind (toE h₃ (fun x s₄ h₄ => wpAny_bind (toE h₄ (fun _ s₅ h₅ => wpAny_pure (wpAny_pure ⟨rfl, h₅⟩))))))

def PTs (X : Cx) (ifs : List Expr) (t : TT) : Prop :=
  ∀ (pins : List (Addr × Obj)) (s : Shared) (σ : St) (H : Hp) (Q : Bool → Hp → Prop), Inv X pins σ H s → t σ H Q → wpAny (model X.prog X.w) X.A (compTests ifs X.env) (TP X pins σ Q) X.xe s
def tYes : TT := fun _ H Q => Q true H
theorem pts_nil {X : Cx} : PTs X [] tYes := fun pins s σ H Q I h => wpAny_pure ⟨H, I, h⟩
theorem pts_one {X : Cx} {c : Expr} {t : TT} (h : PT X c t) : PTs X [c] t := fun pins s σ H Q I q => wpAny_tests_one (h pins s σ H Q I q)

def tComp (src : List (Option Nat)) (wi : TI) (g : TG) (tc : TT) (te : TE) : TE := fun σ H Q => wi σ H fun J H1 => ∀ D, H1 D = none → ∃ W : Nat → Nat → St → Hp → Prop, (∃ m, W 0 m (blk0 src σ) (upd H1 D (.lst []))) ∧ ∀ i m σ' H', W i m σ' H' →
  (J.stop i H' ∧ Q (.ref D) H') ∨ (J.go i H' ∧ ∃ N : St → Hp → Prop, (∀ σ2 H2, N σ2 H2 → ∃ m', m' < m ∧ W (i + 1) m' σ2 H2) ∧ ∀ x H2, J.yld i H' x H2 → g x σ' H2 fun σ3 H3 => tc σ3 H3 fun b H4 =>
    if b = true then te σ3 H4 fun y H5 => ∃ xs, H5 D = some (.lst xs) ∧ xs.length < sizeLine ∧ N σ3 (upd H5 D (.lst (xs ++ [y]))) else N σ3 H4)

section
variable {X : Cx}

theorem comp_block {sc : Scope} {N : List Str} {src : List (Option Nat)} {tg elt iter : Expr} {ifs : List Expr} {pos : Pos} {g : TG} {tc : TT} {te : TE} (B : Blk X sc N src) (hc : X.calm = true)
    (hg : ∀ C fp s H, PG (blkCx X sc C N fp s H) tg g) (ht : ∀ C fp s H, PTs (blkCx X sc C N fp s H) ifs tc) (he : ∀ C fp s H, PE (blkCx X sc C N fp s H) elt te)
    {pins : List (Addr × Obj)} {σ : St} {H : Hp} {s : Shared} {it : Addr} {fp : List Addr} {tn : Nat → Heap → Prop} {J : It} {Q : VK} {E : Value → Shared → Prop}
    (I : Inv X pins σ H s) (T : Turn X.prog X.w X.K tg J fp it tn) (st : tn 0 s.heap) (hf : ∀ b ∈ fp, FpOk X pins H b)
    (hW : ∀ D, H D = none → ∃ W : Nat → Nat → St → Hp → Prop, (∃ m, W 0 m (blk0 src σ) (upd H D (.lst []))) ∧ ∀ i m σ' H', W i m σ' H' →
      (J.stop i H' ∧ Q (.ref D) H') ∨ (J.go i H' ∧ ∃ N : St → Hp → Prop, (∀ σ2 H2, N σ2 H2 → ∃ m', m' < m ∧ W (i + 1) m' σ2 H2) ∧ ∀ x H2, J.yld i H' x H2 → g x σ' H2 fun σ3 H3 => tc σ3 H3 fun b H4 =>
        if b = true then te σ3 H4 fun y H5 => ∃ xs, H5 D = some (.lst xs) ∧ xs.length < sizeLine ∧ N σ3 (upd H5 D (.lst (xs ++ [y]))) else N σ3 H4))
    {RR : Value → Addr → Result → Shared → Prop}
    (hRR : ∀ D C H' s' m', Inv X pins σ H' s' → s'.heap.Ns C m' → H' C = none → s.heap.objs.size ≤ C → Q (.ref D) H' → RR (.ref D) C (.ok .next) s') :
    wpAny (model X.prog X.w) X.A (newList []) (fun acc s₃ => wpAny (model X.prog X.w) X.A (newFunctionEnv sc X.env.globals (clOf X.env.cells sc.names []) [] X.env.qual none .none (some X.env)) (fun cenv s₄ =>
      codeAny (model X.prog X.w) X.A (.compStart (.ListComp elt [⟨tg, iter, ifs, 0⟩] sc pos) 0 (.ref it) acc { cenv with scope := relabel sc X.env }) (RR acc cenv.locals) s₄) E s₃) E s := by
  refine wpAny_newObj_type (wpAny_newFunctionEnv B.nocell (by intro y hy; simp at hy) (fun h₁ hns₁ hsb₁ => ?_) B.kind)
  dsimp only at hns₁ hsb₁ ⊢
  generalize hH2 : s.heap.push { cls := .type "list", dict := none, data := .seq ([] : List Value).toArray } = H2 at hns₁ hsb₁ ⊢
  have hC : H2.objs.size = s.heap.objs.size + 1 := by rw [← hH2, Heap.size_push]
  have hDC : s.heap.objs.size ≠ H2.objs.size := by rw [hC]; exact Nat.ne_of_lt (Nat.lt_succ_self _)
  have hCle : s.heap.objs.size ≤ H2.objs.size := by rw [hC]; exact Nat.le_succ _
  have below : ∀ b, b < s.heap.objs.size → b ≠ H2.objs.size := fun b hb => by rw [hC]; exact Nat.ne_of_lt (Nat.lt_succ_of_lt hb)
  have old : ∀ b o, s.heap.get? b = some o → h₁.get? b = some o := fun b o e => hsb₁.extBut b o (below b (Heap.lt_size e)) (Heap.get?_push_of_some _ (hH2 ▸ Heap.get?_push_of_some _ e))
  have hacc : h₁.get? s.heap.objs.size = some { cls := .type "list", data := .seq #[] 0 } := hsb₁.extBut _ _ hDC (Heap.get?_push_of_some _ (hH2 ▸ Heap.get?_push_size _ rfl))
  have hfo : ∀ b ∈ fp, ∃ o, s.heap.get? b = some o := fun b hb => by obtain ⟨o, e, _⟩ := T.obj _ _ st b hb; exact ⟨o, e⟩
  have st1 : tn 0 h₁ := T.keep _ _ _ st fun b _ o e => old b o e
  obtain ⟨W, ⟨m0, w0⟩, turn⟩ := hW s.heap.objs.size I.fresh
  have I1 := blk_start (t := s.toks + ([] : List (Str × Value)).length) B I hc hf hfo old (Nat.le_refl _) hacc hns₁ hCle hDC
  -- the iterator's objects through the block
  have stat : ∀ {H' : Hp}, (∀ b ∈ fp, H' b = none) → ∀ b ∈ fp, FpOk (blkCx X sc H2.objs.size N fp s H) [] H' b := fun {H'} hn b hb => by
    obtain ⟨f0, f1, f2, f3, f4, f5⟩ := hf b hb
    refine ⟨hn b hb, I1.ok.exf b hb |>.1, I1.ok.exfs b hb, .inl hb, fun x c e => f4 x c (cl_sub e), fun p hp => absurd (show p ∈ ([] : List (Addr × Obj)) ++ [] from hp) (by simp)⟩
  have hfD : ∀ b ∈ fp, b ≠ s.heap.objs.size := fun b hb z => by
    obtain ⟨o, e⟩ := hfo b hb
    exact absurd (Heap.lt_size e) (by rw [z]; exact Nat.lt_irrefl _)
  have loop : ∀ s₃ : Shared, s₃ = { s with heap := h₁, toks := s.toks + ([] : List (Str × Value)).length } →
      codeAny (model X.prog X.w) X.A (.compLoop (.ListComp elt [⟨tg, iter, ifs, 0⟩] sc pos) 0 (.ref it) (.ref s.heap.objs.size) (compEnvC sc (clOf X.env.cells sc.names []) H2.objs.size X.env))
        (RR (.ref s.heap.objs.size) H2.objs.size) s₃ := by
    rintro s₃ rfl
    refine compLoop_any (fun n s' => ∃ i σ' H', Inv (blkCx X sc H2.objs.size N fp s H) [] σ' H' s' ∧ tn i s'.heap ∧ (∀ b ∈ fp, H' b = none) ∧ W i n σ' H') ?_ m0
      ⟨0, _, _, I1, st1, fun b hb => by rw [upd_ne (hfD b hb)]; exact (hf b hb).1, w0⟩
    rintro n s3 ⟨i, σ3, H3, I3, st3, fr3, w3⟩
    rcases turn i n σ3 H3 w3 with ⟨stop, qn⟩ | ⟨go, N', hN', step⟩
    · refine thn (T.done (blkCx X sc H2.objs.size N fp s H) rfl rfl rfl rfl i [] s3 σ3 H3 noE I3 (stat fr3) st3 stop) fun r s4 ⟨hr, I4⟩ => ?_
      subst hr
      obtain ⟨m4, hn4, _⟩ := id I4.loc
      refine hRR _ _ H3 s4 m4 ?_ hn4 I4.free hCle qn
      exact I.call' (ch := fp) I4.os I4.base I4.hok I4.bare fun b hb => ⟨(hf b hb).2.2.2.1, (hf b hb).2.1, (hf b hb).2.2.2.2.1, (hf b hb).2.2.2.2.2⟩
    · refine thn (T.item (blkCx X sc H2.objs.size N fp s H) rfl rfl rfl rfl i [] s3 σ3 H3 noE I3 (stat fr3) st3 go) fun r s4 ⟨u, hr, h4⟩ => ?_
      subst hr
      refine thn h4 fun _ s5 ⟨x, H5, I5, r5, y5, st5, fr5⟩ => ?_
      have I5' := I5.pinned (stat fr5) (T.obj _ _ st5)
      have again : ∀ {s7 : Shared} {σ7 : St} {H7 : Hp}, Inv (blkCx X sc H2.objs.size N fp s H) ([] ++ pinsAt fp s5.heap) σ7 H7 s7 → N' σ7 H7 → ∃ m, m < n ∧ ∃ i σ' H', Inv (blkCx X sc H2.objs.size N fp s H) [] σ' H' s7 ∧ tn i s7.heap ∧ (∀ b ∈ fp, H' b = none) ∧ W i m σ' H' := fun {s7 σ7 H7} I7 n7 => by
        obtain ⟨m', hm, w7⟩ := hN' σ7 H7 n7
        refine ⟨m', hm, i + 1, σ7, H7, I7.unpinned, T.keep _ _ _ st5 fun b hb o e => (I7.pin (b, o) (List.mem_append_right _ (List.mem_append_right _ (mem_pinsAt hb e)))).1, fun b hb => ?_, w7⟩
        obtain ⟨o, e, d⟩ := T.obj _ _ st5 b hb
        exact (I7.pin (b, o) (List.mem_append_right _ (List.mem_append_right _ (mem_pinsAt hb e)))).2.1
      refine thn (hg _ _ _ _ _ s5 σ3 H5 x u _ I5' r5 (step x H5 y5)) fun _ s6 ⟨σ6, H6, I6, q6⟩ => ?_
      refine thn (ht _ _ _ _ _ s6 σ6 H6 _ I6 q6) fun ok s7 ⟨H7, I7, q7⟩ => ?_
      cases ok with
      | false =>
        rw [if_neg Bool.false_ne_true] at q7 ⊢
        exact again I7 q7
      | true =>
        rw [if_pos rfl] at q7 ⊢
        refine thn (he _ _ _ _ _ s7 σ6 H7 _ I7 q7) fun y s8 ⟨v8, H8, I8, r8, q8⟩ => ?_
        obtain ⟨xs, hD8, hz8, n8⟩ := q8
        refine thn (mt_append _ s8 σ6 H8 (.ref s.heap.objs.size) [v8] (.ref s.heap.objs.size) [y] (fun _ H9 => H9 = upd H8 s.heap.objs.size (.lst (xs ++ [v8]))) I8 rfl (.cons r8 .nil) ⟨_, xs, v8, rfl, rfl, hD8, hz8, rfl⟩) fun _ s9 ⟨v9, H9, I9, r9, q9⟩ => ?_
        subst q9
        exact again I9 n8
  refine codeAny_compStart_list (loop _ rfl) (toE (T.self X.A 0 { s with heap := h₁, toks := s.toks + ([] : List (Str × Value)).length } (fun v s' => v = .ref it ∧ s' = { s with heap := h₁, toks := s.toks + ([] : List (Str × Value)).length }) noE st1 ⟨rfl, rfl⟩) fun v s' ⟨e1, e2⟩ => ?_)
  subst e1; subst e2
  exact loop _ rfl

theorem Inv.letGo {pins : List (Addr × Obj)} {σ : St} {H : Hp} {s s0 : Shared} {C : Addr} {h' : Heap} (I : Inv X pins σ H s) (I0 : ∃ σ0 H0, Inv X pins σ0 H0 s0) (hC : s0.heap.objs.size ≤ C) (hn : H C = none) (hs : Heap.SameBut C s.heap h') : Inv X pins σ H { s with heap := h' } := by
  obtain ⟨σ0, H0, I0⟩ := I0
  refine I.turned (t' := s.toks) (it := C) (fun b o hb e => (hs.2 b hb).trans e) hn (Nat.ne_of_gt (Nat.lt_of_lt_of_le I0.lt hC)) (.inr (Nat.le_trans I0.sz hC)) (fun x c e z => ?_) fun p hp z => ?_
  · obtain ⟨v, q⟩ := I0.cell x c e
    exact absurd (Nat.lt_of_lt_of_le q.lt (by rw [z]; exact hC)) (Nat.lt_irrefl _)
  · exact absurd (Nat.lt_of_lt_of_le (Heap.lt_size (I0.pin p hp).1) (by rw [z]; exact hC)) (Nat.lt_irrefl _)

theorem pe_comp {sc : Scope} {N : List Str} {src : List (Option Nat)} {tg elt iter : Expr} {ifs : List Expr} {pos : Pos} {wi : TI} {g : TG} {tc : TT} {te : TE} (B : Blk X sc N src) (hc : X.calm = true)
    (hi : PI X tg iter wi) (hg : ∀ C fp s H, PG (blkCx X sc C N fp s H) tg g) (ht : ∀ C fp s H, PTs (blkCx X sc C N fp s H) ifs tc) (he : ∀ C fp s H, PE (blkCx X sc C N fp s H) elt te)
    (hs : ∀ x, foldedSetIterable iter X.env x = pure x := by intro _; rfl) :
    PE X (.ListComp elt [⟨tg, iter, ifs, 0⟩] sc pos) (tComp src wi g tc te) := by
  intro pins s σ H Q I h
  rw [eval_ListComp]
  refine wpAny_comprehension_free (use := none) rfl hs (B.cl I.ok) B.kind B.names (wpAny_mono (hi pins s σ H _ I h) (fun xv s₁ h₁ => wpAny_mono h₁ (fun itv s₂ h₂ => ?_) fun _ _ e => e) fun _ _ e => e)
  obtain ⟨it, fp, tn, J, H2, rfl, I2, T, st2, f2, hW⟩ := h₂
  refine comp_block (RR := fun acc C => compPost (model X.prog X.w) X.A X.xe none (EP X pins σ Q) acc C) (Q := Q) B hc hg ht he I2 T st2 f2 hW ?_
  intro D C H' s' m' I' hn hC hCs q
  exact ⟨m', hn, fun h'' hs'' => ⟨.ref D, H', I'.letGo ⟨_, _, I2⟩ hCs hC hs'', rfl, q⟩⟩

theorem ps_setC {i : Nat} {y : Str} {py : Pos} {sc : Scope} {N : List Str} {src : List (Option Nat)} {tg elt iter : Expr} {ifs : List Expr} {pos spos : Pos} {wi : TI} {g : TG} {tc : TT} {te : TE} (hN : X.N.Nodup) (hi' : X.N[i]? = some y) (hx : Loc X.env.scope y)
    (B : Blk X sc N src) (hc : X.calm = true)
    (hi : PI X tg iter wi) (hg : ∀ C fp s H, PG (blkCx X sc C N fp s H) tg g) (ht : ∀ C fp s H, PTs (blkCx X sc C N fp s H) ifs tc) (he : ∀ C fp s H, PE (blkCx X sc C N fp s H) elt te)
    (hsw : swapsWith (.ListComp elt [⟨tg, iter, ifs, 0⟩] sc pos) (some (.Name y py)) spos.line X.env = pure true := by rfl)
    (hs : ∀ x, foldedSetIterable iter X.env x = pure x := by intro _; rfl) (hf : X.fn y = true ∨ X.env.scope.names.lookup y = some .local := by first | exact .inl rfl | exact .inr rfl | assumption) :
    PS X (.Assign [.Name y py] (.ListComp elt [⟨tg, iter, ifs, 0⟩] sc pos) spos) (tAsg (tComp src wi g tc te) (gName i)) := by
  intro pins s σ H Dn I h
  rw [exec_Assign_Name_used _ _ _ _ hsw]
  refine wpAny_bind (wpAny_standAt (wpAny_bind ?_))
  show wpAny _ _ (do let _ ← comprehension (.ListComp elt [⟨tg, iter, ifs, 0⟩] sc pos) sc X.env _ (newList []) false (eval iter X.env) (some (assign (.Name y py) X.env))) _ _ s
  refine wpAny_bind (wpAny_mono (wpAny_comprehension_free (use := some (assign (.Name y py) X.env)) (Q := fun _ s' => SP X pins Dn .next s') rfl hs (B.cl I.ok) B.kind B.names
    (wpAny_mono (hi pins s σ H _ I h) (fun xv s₁ h₁ => wpAny_mono h₁ (fun itv s₂ h₂ => ?_) fun _ _ e => e) fun _ _ e => e)) (fun _ s' hq => wpAny_pure (wpAny_pure hq)) fun _ _ e => e)
  obtain ⟨it, fp, tn, J, H2, rfl, I2, T, st2, f2, hW⟩ := h₂
  refine comp_block (RR := fun acc C => compPost (model X.prog X.w) X.A X.xe (some (assign (.Name y py) X.env)) (fun _ s' => SP X pins Dn .next s') acc C) (Q := fun x H1 => gName i x σ H1 Dn.nx) B hc hg ht he I2 T st2 f2 hW ?_
  intro D C H' s' m' I' hn hC hCs q
  show wpAny _ _ (assign (.Name y py) X.env (.ref D)) _ _ _
  refine wpAny_assign_Name (store_ok2 I' hN hi' hx (v := .ref D) rfl (fun s'' I'' ⟨a, hsb, ha⟩ => ?_) hf)
  have hCa : C ≠ a := fun z => by
    rcases ha with ha | ha
    · have := I2.lt; rw [← ha, ← z] at this
      exact absurd (Nat.lt_of_lt_of_le this hCs) (Nat.lt_irrefl _)
    · obtain ⟨v, qv⟩ := I2.cell y a ha
      exact absurd (Nat.lt_of_lt_of_le qv.lt (by rw [← z]; exact hCs)) (Nat.lt_irrefl _)
  exact ⟨m', hn.sameBut hsb hCa, fun h'' hs'' => ⟨_, H', I''.letGo ⟨_, _, I2⟩ hCs hC hs'', q⟩⟩
end
end L2

set_option Elab.async false
set_option linter.all false
set_option maxRecDepth 100000
namespace L2
open PySem PySem.Spec PyProof.Rows

section
variable {X : Cx} {pins : List (Addr × Obj)} {σ : St} {H : Hp} {s : Shared} {h' : Heap}
theorem Inv.turnedL {t' : Nat} {fp : List Addr} (I : Inv X pins σ H s) (k : ∀ b o, b ∉ fp → s.heap.get? b = some o → h'.get? b = some o) (hf : ∀ b ∈ fp, FpOk X pins H b) : Inv X pins σ H { s with heap := h', toks := t' } := by
  have nit : ∀ b u, H b = some u → b ∉ fp := fun b u e z => by rw [(hf b z).1] at e; cases e
  refine I.step (g' := s.gens) (d' := s.drawn) (ch := fp) (fun b hb => ⟨(hf b hb).2.2.2.1, (hf b hb).2.1, (hf b hb).2.2.2.2.1, (hf b hb).2.2.2.2.2⟩) (fun b o _ _ hc e _ => k b o hc e) (fun b o _ _ hc e _ => ⟨o.slots, k b o hc e⟩) (fun _ _ _ _ n => n)
    (fun b o hc e => ⟨o, k b o hc e⟩) (fun _ _ e => e) (fun _ _ _ e => e) (fun b ps e => ⟨#[], by rw [e]; simp⟩) (fun m hm => ?_) (fun b u e => ?_) I.bare
  · obtain ⟨o, es, ep, ho, r⟩ := hm
    exact ⟨o, es, ep, k _ o (fun z => (hf _ z).2.1 rfl) ho, r⟩
  · refine (I.hok b u e).stay (fun c v hc q => k c v ?_ q) (fun _ q => q) fun _ _ q => q
    rcases hc with z | z
    · rw [z]; exact nit b u e
    · exact nit c _ z
theorem Inv.turnedN {t' : Nat} {fp : List Addr} {T : Addr} {o : HO} (I : Inv X pins σ H s) (k : ∀ b o, b ∉ fp → s.heap.get? b = some o → h'.get? b = some o) (hf : ∀ b ∈ fp, FpOk X pins H b) (hT : s.heap.objs.size ≤ T)
    (new : ObjOk X.prog X.w (upd H T o) h' T o) : Inv X pins σ (upd H T o) { s with heap := h', toks := t' } := by
  have hn : H T = none := I.hok.fresh hT
  have ne : ∀ b u, s.heap.get? b = some u → b ≠ T := fun b u e z => absurd (Nat.lt_of_lt_of_le (Heap.lt_size e) (by rw [z]; exact hT)) (Nat.lt_irrefl _)
  have nit : ∀ b u, H b = some u → b ∉ fp := fun b u e z => by rw [(hf b z).1] at e; cases e
  refine I.step (g' := s.gens) (d' := s.drawn) (ch := fp) (fun b hb => ⟨(hf b hb).2.2.2.1, (hf b hb).2.1, (hf b hb).2.2.2.2.1, (hf b hb).2.2.2.2.2⟩) (fun b o _ _ hc e _ => k b o hc e) (fun b o _ _ hc e _ => ⟨o.slots, k b o hc e⟩) (fun b o _ e n => by rw [upd_ne (ne b o e)]; exact n)
    (fun b o hc e => ⟨o, k b o hc e⟩) (fun b xs e => by rw [upd_ne (ne_of_none e hn)]; exact e) (fun b _ _ e => by rw [upd_ne (ne_of_none e hn)]; exact e) (fun b ps e => ⟨#[], by rw [upd_ne (ne_of_none e hn), e]; simp⟩) (fun m hm => ?_) (fun b u e => ?_) I.bare
  · obtain ⟨o, es, ep, ho, r⟩ := hm
    exact ⟨o, es, ep, k _ o (fun z => (hf _ z).2.1 rfl) ho, r⟩
  · by_cases hb : b = T
    · subst hb; rw [upd_same] at e; cases e; exact new
    · rw [upd_ne hb] at e
      refine (I.hok b u e).stay (fun c v hc q => k c v ?_ q) (fun c q => by rw [upd_ne (ne_of_none q hn)]; exact q) fun c xs q => by rw [upd_ne (ne_of_none q hn)]; exact q
      rcases hc with z | z
      · rw [z]; exact nit b u e
      · exact nit c _ z
end

def Itz2 (K : PySem.W.Frag) (l1 l2 : Addr) : It :=
  ⟨fun i H => ∃ xs ys x y, SqL K H l1 xs ∧ SqL K H l2 ys ∧ xs[i]? = some x ∧ ys[i]? = some y,
   fun i H v H' => ∃ t x y, v = .ref t ∧ H t = none ∧ H' = upd H t (.tup [x, y]) ∧ (∀ xs, SqL K H l1 xs → xs[i]? = some x) ∧ (∀ ys, SqL K H l2 ys → ys[i]? = some y),
   fun i H => ∃ xs ys, SqL K H l1 xs ∧ SqL K H l2 ys ∧ (xs.length ≤ i ∨ ys.length ≤ i)⟩

structure Zip2 (z TI TO i1 i2 : Addr) : Prop where
  TIz : TI ≠ z
  TOz : TO ≠ z
  i1z : i1 ≠ z
  i2z : i2 ≠ z
  TITO : TI ≠ TO
  TIi1 : TI ≠ i1
  TIi2 : TI ≠ i2
  TOi1 : TO ≠ i1
  TOi2 : TO ≠ i2
  i12 : i1 ≠ i2

theorem ne_cls {h : Heap} {a b : Addr} {o u : Obj} (e : h.get? a = some o) (e' : h.get? b = some u) (d : o.cls ≠ u.cls) : a ≠ b := by
  intro z; subst z; rw [e] at e'; exact d (congrArg Obj.cls (Option.some.inj e'))

theorem list_ne_of {n : String} (h : ("list" == n) = false) : Value.type "list" ≠ Value.type n := fun e => by cases e; revert h; decide
theorem zip2_new (n : Nat) : Zip2 (n + 4) (n + 2) (n + 3) n (n + 1) := by
  constructor <;> (show ((_ : Nat) ≠ _); omega)
theorem zip2_apart {h : Heap} {z TI TO i1 i2 l1 l2 : Addr} {its1 its2 : Array Value} {a b f0 : Value} {k1 k2 : Nat} (D : Zip2 z TI TO i1 i2) (hz : IsZip h z TI TO f0) (hTO : IsPair h TO a b) (h1 : h.IsListIter i1 l1 k1) (h2 : h.IsListIter i2 l2 k2)
    (p1 : h.IsList l1 its1) (p2 : h.IsList l2 its2) : ZipApart z TI TO i1 i2 l1 l2 := by
  obtain ⟨o1, e1, c1, _⟩ := h1
  obtain ⟨o2, e2, c2, _⟩ := h2
  obtain ⟨p1o, pe1, pc1, _⟩ := p1
  obtain ⟨p2o, pe2, pc2, _⟩ := p2
  exact ⟨D.TIz, D.TOz, D.i1z, D.i2z, D.TITO, D.TIi1, D.TIi2, D.TOi1, D.TOi2, D.i12,
    ne_cls pe1 hz (by rw [pc1]; exact list_ne_of (by decide)), ne_cls pe1 hTO (by rw [pc1]; exact list_ne_of (by decide)), ne_cls pe1 e1 (by rw [pc1, c1]; decide), ne_cls pe1 e2 (by rw [pc1, c2]; decide),
    ne_cls pe2 hz (by rw [pc2]; exact list_ne_of (by decide)), ne_cls pe2 hTO (by rw [pc2]; exact list_ne_of (by decide)), ne_cls pe2 e1 (by rw [pc2, c1]; decide), ne_cls pe2 e2 (by rw [pc2, c2]; decide)⟩

theorem turn_zip2 {P : Program} {w : World} {K : PySem.W.Frag} {es : List Expr} {tk : Nat} {tp : Pos} (z TI TO i1 i2 l1 l2 : Addr) (D : Zip2 z TI TO i1 i2) :
    Turn P w K (.Tuple es tk tp) (Itz2 K l1 l2) [z, TI, TO, i1, i2] z
      (fun i h => IsZip h z TI TO .none ∧ IsPair h TI (.ref i1) (.ref i2) ∧ (∃ a b, IsPair h TO a b) ∧ h.IsListIter i1 l1 i ∧ h.IsListIter i2 l2 i) where
  mem := by simp
  obj := fun i h st b hb => by
    obtain ⟨hz, hTI, ⟨a, c, hTO⟩, ⟨o1, e1, _, d1⟩, ⟨o2, e2, _, d2⟩⟩ := st
    simp only [List.mem_cons, List.not_mem_nil, or_false] at hb
    rcases hb with rfl | rfl | rfl | rfl | rfl
    · exact ⟨_, hz, fun v q => by cases q⟩
    · exact ⟨_, hTI, fun v q => by cases q⟩
    · exact ⟨_, hTO, fun v q => by cases q⟩
    · exact ⟨_, e1, fun v q => by rw [d1] at q; cases q⟩
    · exact ⟨_, e2, fun v q => by rw [d2] at q; cases q⟩
  keep := fun i h h' st k => by
    obtain ⟨hz, hTI, ⟨a, c, hTO⟩, h1, h2⟩ := st
    exact ⟨k z (by simp) _ hz, k TI (by simp) _ hTI, ⟨a, c, k TO (by simp) _ hTO⟩, h1.at fun o e => k i1 (by simp) o e, h2.at fun o e => k i2 (by simp) o e⟩
  item := by
    intro X hP hw hK hc i pins s σ H E I hf st hg
    subst hP hw hK
    obtain ⟨xs, ys, x, y, hq1, hq2, hx, hy⟩ := hg
    obtain ⟨its1, rv1, p1, _⟩ := I.list hq1
    obtain ⟨its2, rv2, p2, _⟩ := I.list hq2
    obtain ⟨u, hu, ru⟩ := rv1.get hx
    obtain ⟨v, hv, rw'⟩ := rv2.get hy
    obtain ⟨hz, hTI, ⟨a, b, hTO⟩, h1, h2⟩ := st
    have Z := zip2_apart D hz hTO h1 h2 p1.isList p2.isList
    refine wpAny_pyNext_zip_item Z hz hTI hTO h1 h2 p1.isList p2.isList (x := u) (y := v) (by simpa using hu) (by simpa using hv) fun h' a1 a2 a3 a4 a5 a6 hk => ?_
    refine ⟨_, rfl, ?_⟩
    refine wpAny_letOwnedTupleGo_zip a1 fun h'' hz'' hs'' => ?_
    have hzs : z < s.heap.objs.size := Heap.lt_size hz
    have kk : ∀ c o, c ∉ [z, TI, TO, i1, i2] → s.heap.get? c = some o → h''.get? c = some o := fun c o hc e => by
      simp only [List.mem_cons, List.not_mem_nil, or_false, not_or] at hc
      exact hs''.extBut _ _ hc.1 (hk c o hc.1 hc.2.2.1 hc.2.2.2.1 hc.2.2.2.2 e)
    have hT : h''.get? s.heap.objs.size = some { cls := .type "tuple", data := .seq #[u, v] } := hs''.extBut _ _ (Nat.ne_of_gt hzs) a5
    have I2 : Inv X pins σ (upd H s.heap.objs.size (.tup [x, y])) { s with heap := h'', toks := s.toks } :=
      I.turnedN (T := s.heap.objs.size) (o := .tup [x, y]) kk hf (Nat.le_refl _) ⟨by show 2 ≤ sizeLine; decide, [u, v], .cons ru (.cons rw' .nil), ⟨_, hT, rfl, _, rfl⟩⟩
    refine ⟨.ref s.heap.objs.size, _, I2, rfl, ⟨_, x, y, rfl, I.fresh, rfl, fun zs hzs' => by rw [I.list_inj hzs' hq1]; exact hx, fun zs hzs' => by rw [I.list_inj hzs' hq2]; exact hy⟩,
      ⟨hz'', hs''.extBut _ _ D.TIz (hk _ _ D.TIz D.TITO D.TIi1 D.TIi2 hTI), ⟨_, _, hs''.extBut _ _ D.TOz a2⟩, a3.extBut hs''.extBut D.i1z, a4.extBut hs''.extBut D.i2z⟩, fun c hc' => ?_⟩
    have hlt : c < s.heap.objs.size := by
      obtain ⟨o1, e1, _⟩ := h1
      obtain ⟨o2, e2, _⟩ := h2
      simp only [List.mem_cons, List.not_mem_nil, or_false] at hc'
      rcases hc' with rfl | rfl | rfl | rfl | rfl
      · exact hzs
      · exact Heap.lt_size hTI
      · exact Heap.lt_size hTO
      · exact Heap.lt_size e1
      · exact Heap.lt_size e2
    rw [upd_ne (Nat.ne_of_lt hlt)]
    exact (hf c hc').1
  done := by
    intro X hP hw hK hc i pins s σ H E I hf st hg
    subst hP hw hK
    obtain ⟨xs, ys, hq1, hq2, hl⟩ := hg
    obtain ⟨its1, rv1, p1, _⟩ := I.list hq1
    obtain ⟨its2, rv2, p2, _⟩ := I.list hq2
    obtain ⟨hz, hTI, ⟨a, b, hTO⟩, h1, h2⟩ := st
    have Z := zip2_apart D hz hTO h1 h2 p1.isList p2.isList
    have l1' := rv1.length
    have l2' := rv2.length
    refine wpAny_pyNext_zip_end (I.ok.hd hc) Z hz hTI hTO h1 h2 p1.isList p2.isList (hl.elim (fun q => .inl (by simp; omega)) fun q => .inr (by simp; omega)) fun h' hk => ⟨rfl, ?_⟩
    exact I.turnedL (t' := s.toks) (fun c o hc e => by
      simp only [List.mem_cons, List.not_mem_nil, or_false, not_or] at hc
      exact hk c o hc.1 hc.2.2.1 hc.2.2.2.1 hc.2.2.2.2 e) hf
  self := fun _ _ _ _ _ st h => wpAny_pyIter_zip st.1 h

section
variable {X : Cx}
def iZip2 (K : PySem.W.Frag) (ta : TA) : TI := fun σ H R => ta σ H fun vs H1 => ∃ a b xs ys, vs = [.ref a, .ref b] ∧ SqL K H1 a xs ∧ SqL K H1 b ys ∧ R (Itz2 K a b) H1
theorem pi_zip2 {a b : Expr} {ta : TA} {p pos : Pos} {es : List Expr} {tk : Nat} {tp : Pos} (hg : Gl X "zip") (hm : X.mg "zip" = none) (ha : PA X [a, b] ta) (hs : starEach [a, b] X.env = [(false, eval a X.env), (false, eval b X.env)] := by rfl) (hs2 : starEach [b] X.env = [(false, eval b X.env)] := by rfl) :
    PI X (.Tuple es tk tp) (.Call (.Name "zip" p) [a, b] [] pos) (iZip2 X.K ta) := by
  intro pins s σ H R I h
  refine Call_ (ld_blt I hg hm boot_zip (PyProof.Rows.callWith_type1 (thn (ha pos pins s σ H _ I h) fun us s1 ⟨vs, H1, I1, r1, q1⟩ => ?_) (by rw [hs, hs2]) (by rw [hs2]; rfl)))
  obtain ⟨l1, l2, xs, ys, e, q1, q2, q⟩ := q1
  subst e
  cases r1 with
  | cons r rr =>
    cases rr with
    | cons r' rr =>
      cases rr
      cases r
      cases r'
      obtain ⟨its1, rv1, p1, _⟩ := I1.list q1
      obtain ⟨its2, rv2, p2, _⟩ := I1.list q2
      refine call_zip_2 p1.isList p2.isList fun h' hz hTI hTO hi1 hi2 hsz hk => ?_
      have I2 : Inv X pins σ H1 { s1 with heap := h', toks := s1.toks } := I1.kept hk
      refine wpAny_pyIter_zip (s := { s1 with heap := h' }) hz ?_
      refine ⟨_, [s1.heap.objs.size + 4, s1.heap.objs.size + 2, s1.heap.objs.size + 3, s1.heap.objs.size, s1.heap.objs.size + 1], _, _, H1, rfl, I2, turn_zip2 _ _ _ _ _ l1 l2 (zip2_new _),
        ⟨hz, hTI, ⟨_, _, hTO⟩, hi1, hi2⟩, fun b hb => ?_, q⟩
      have hb' : s1.heap.objs.size ≤ b := by
        simp only [List.mem_cons, List.not_mem_nil, or_false] at hb
        rcases hb with rfl | rfl | rfl | rfl | rfl
        · exact Nat.le_add_right _ 4
        · exact Nat.le_add_right _ 2
        · exact Nat.le_add_right _ 3
        · exact Nat.le_refl _
        · exact Nat.le_add_right _ 1
      exact I1.fpOk hb' (I1.hok.fresh hb')
end
end L2

set_option Elab.async false
set_option linter.all false
set_option maxRecDepth 100000
namespace L2
open PySem PySem.Spec PyProof.Rows

structure Zip3 (z TI TO i1 i2 i3 : Addr) : Prop where
  TIz : TI ≠ z
  TOz : TO ≠ z
  i1z : i1 ≠ z
  i2z : i2 ≠ z
  i3z : i3 ≠ z
  TITO : TI ≠ TO
  TIi1 : TI ≠ i1
  TIi2 : TI ≠ i2
  TIi3 : TI ≠ i3
  TOi1 : TO ≠ i1
  TOi2 : TO ≠ i2
  TOi3 : TO ≠ i3
  i12 : i1 ≠ i2
  i13 : i1 ≠ i3
  i23 : i2 ≠ i3
structure Apart3 (z TO i1 i2 i3 l : Addr) : Prop where
  lz : l ≠ z
  lTO : l ≠ TO
  l1 : l ≠ i1
  l2 : l ≠ i2
  l3 : l ≠ i3
section
variable {prog : Program} {w : World} {A : Around} {E : Value → Shared → Prop} {s : Shared}
end

section
variable {X : Cx}
end

section
variable {X : Cx}
end
end L2

set_option Elab.async false
set_option linter.all false
set_option maxRecDepth 100000
namespace L2
open PySem PySem.Spec PyProof.Rows

inductive D where
  | non | bl (b : Bool) | int (i : Int) | str (x : Str) | lst (ds : List D) | tup (ds : List D)

mutual
inductive Rep (K : PySem.W.Frag) (F : Hp) : V → D → Prop
  | non : Rep K F .non .non
  | bl (b : Bool) : Rep K F (.bl b) (.bl b)
  | int (i : Int) : Rep K F (.int i) (.int i)
  | str (x : Str) : Rep K F (.str x) (.str x)
  | lst {a : Addr} {xs : List V} {ds : List D} : SqL K F a xs → Reps K F xs ds → Rep K F (.ref a) (.lst ds)
  | tup {a : Addr} {xs : List V} {ds : List D} : SqT K F a xs → Reps K F xs ds → Rep K F (.ref a) (.tup ds)
inductive Reps (K : PySem.W.Frag) (F : Hp) : List V → List D → Prop
  | nil : Reps K F [] []
  | cons {v : V} {d : D} {vs : List V} {ds : List D} : Rep K F v d → Reps K F vs ds → Reps K F (v :: vs) (d :: ds)
end

theorem Same.seqT {K : PySem.W.Frag} {H H' : Hp} {a : Addr} {xs : List V} (e : Same H H') (h : SqT K H a xs) : SqT K H' a xs := by
  rcases h with (h | ⟨o, h⟩) | h
  · exact .inl (.inl (e _ _ h))
  · exact .inl (.inr ⟨o, e _ _ h⟩)
  · exact .inr h
section
variable {K : PySem.W.Frag} {F F' : Hp}
mutual
theorem Rep.mono (e : Same F F') : ∀ {v : V} {d : D}, Rep K F v d → Rep K F' v d
  | _, _, .non => .non
  | _, _, .bl b => .bl b
  | _, _, .int i => .int i
  | _, _, .str x => .str x
  | _, _, .lst h r => .lst (e.seq h) (Reps.mono e r)
  | _, _, .tup h r => .tup (e.seqT h) (Reps.mono e r)
theorem Reps.mono (e : Same F F') : ∀ {vs : List V} {ds : List D}, Reps K F vs ds → Reps K F' vs ds
  | _, _, .nil => .nil
  | _, _, .cons h r => .cons (Rep.mono e h) (Reps.mono e r)
end
theorem Reps.length : ∀ {vs : List V} {ds : List D}, Reps K F vs ds → vs.length = ds.length
  | _, _, .nil => rfl
  | _, _, .cons _ r => congrArg (· + 1) (Reps.length r)
theorem Reps.get : ∀ {vs : List V} {ds : List D} {i : Nat} {d : D}, Reps K F vs ds → ds[i]? = some d → ∃ v, vs[i]? = some v ∧ Rep K F v d
  | _, _, _, _, .nil, e => by simp at e
  | _, _, 0, _, .cons h _, e => by simp at e; subst e; exact ⟨_, rfl, h⟩
  | _, _, i + 1, d, .cons _ r, e => by
    obtain ⟨v, h1, h2⟩ := Reps.get (i := i) (d := d) r (by simpa using e)
    exact ⟨v, by simpa using h1, h2⟩
theorem Reps.get' : ∀ {vs : List V} {ds : List D} {i : Nat} {v : V}, Reps K F vs ds → vs[i]? = some v → ∃ d, ds[i]? = some d ∧ Rep K F v d
  | _, _, _, _, .nil, e => by simp at e
  | _, _, 0, _, .cons h _, e => by simp at e; subst e; exact ⟨_, rfl, h⟩
  | _, _, i + 1, d, .cons _ r, e => by
    obtain ⟨v, h1, h2⟩ := Reps.get' (i := i) (v := d) r (by simpa using e)
    exact ⟨v, by simpa using h1, h2⟩
theorem Reps.append : ∀ {vs ws : List V} {ds es : List D}, Reps K F vs ds → Reps K F ws es → Reps K F (vs ++ ws) (ds ++ es)
  | _, _, _, _, .nil, s => s
  | _, _, _, _, .cons h r, s => .cons h (Reps.append r s)
theorem Reps.take : ∀ {vs : List V} {ds : List D} (n : Nat), Reps K F vs ds → Reps K F (vs.take n) (ds.take n)
  | _, _, 0, _ => .nil
  | _, _, _ + 1, .nil => .nil
  | _, _, n + 1, .cons h r => .cons h (Reps.take n r)
theorem Reps.drop : ∀ {vs : List V} {ds : List D} (n : Nat), Reps K F vs ds → Reps K F (vs.drop n) (ds.drop n)
  | _, _, 0, r => r
  | _, _, _ + 1, .nil => .nil
  | _, _, n + 1, .cons _ r => Reps.drop n r
theorem Reps.set {v : V} {d : D} (h : Rep K F v d) : ∀ {vs : List V} {ds : List D} (i : Nat), Reps K F vs ds → Reps K F (vs.set i v) (ds.set i d)
  | _, _, _, .nil => .nil
  | _, _, 0, .cons _ r => .cons h r
  | _, _, i + 1, .cons q r => .cons q (Reps.set h i r)
theorem Reps.reverse {vs : List V} {ds : List D} (h : Reps K F vs ds) : Reps K F vs.reverse ds.reverse := by
  induction vs generalizing ds with
  | nil => cases h; exact .nil
  | cons v vs ih =>
    cases h with
    | cons h r => rw [List.reverse_cons, List.reverse_cons]; exact (ih r).append (.cons h .nil)
end

structure Ext (F H F' H' : Hp) : Prop where
  ff : Same F F'
  hh : Same H H'
  fh : Same F' H'
  new : ∀ b, F b = none → F' b ≠ none → H b = none
  nf : ∀ b o u, F' b = some (.frz o u) → F b = some (.frz o u)
theorem Ext.refl {F H : Hp} (h : Same F H) : Ext F H F H := ⟨Same.refl _, Same.refl _, h, fun b e n => absurd e n, fun _ _ _ z => z⟩
theorem Ext.trans {F H F1 H1 F2 H2 : Hp} (a : Ext F H F1 H1) (b : Ext F1 H1 F2 H2) : Ext F H F2 H2 :=
  ⟨a.ff.trans b.ff, a.hh.trans b.hh, b.fh, fun c e n => by
    by_cases h : F1 c = none
    · exact a.hh.free (b.new c h n)
    · exact a.new c e h, fun c o u z => a.nf c o u (b.nf c o u z)⟩
theorem Same.put {F H : Hp} {p : Addr} {o : HO} (h : Same F H) (hp : F p = none) : Same F (upd H p o) := fun b u e => by
  rw [upd_ne (ne_of_none e hp)]; exact h b u e
theorem Same.put2 {F H : Hp} {p : Addr} {o : HO} (h : Same F H) : Same (upd F p o) (upd H p o) := fun b u e => by
  by_cases hb : b = p
  · subst hb; rw [upd_same] at e ⊢; exact e
  · rw [upd_ne hb] at e ⊢; exact h b u e
theorem Ext.laid {F H : Hp} {p : Addr} {o : HO} (h : Same F H) (hp : H p = none) (hz : ∀ a u, o ≠ .frz a u := by intro _ _ z; cases z) : Ext F H (upd F p o) (upd H p o) :=
  ⟨(Same.refl F).put (h.free hp), (Same.refl H).put hp, h.put2, fun b e n => by
    by_cases hb : b = p
    · subst hb; exact hp
    · rw [upd_ne hb] at n; exact absurd e n, fun b a u z => by
    by_cases hb : b = p
    · subst hb; rw [upd_same] at z; exact absurd (Option.some.inj z) (hz a u)
    · rw [upd_ne hb] at z; exact z⟩
theorem Ext.own {F H : Hp} {p : Addr} {o : HO} (h : Same F H) (hp : H p = none) : Ext F H F (upd H p o) :=
  ⟨Same.refl F, (Same.refl H).put hp, h.put (h.free hp), fun b e n => absurd e n, fun _ _ _ z => z⟩
theorem Ext.freeze {F H F' H' : Hp} {p : Addr} {o : HO} (a : Ext F H F' H') (hp' : F' p = none) (hp : H p = none) (ho : H' p = some o) (hz : ∀ a u, o ≠ .frz a u := by intro _ _ z; cases z) : Ext F H (upd F' p o) H' :=
  ⟨a.ff.put (a.ff.free hp'), a.hh, fun b u e => by
      by_cases hb : b = p
      · subst hb; rw [upd_same] at e; cases e; exact ho
      · rw [upd_ne hb] at e; exact a.fh b u e, fun b e n => by
      by_cases hb : b = p
      · subst hb; exact hp
      · rw [upd_ne hb] at n; exact a.new b e n, fun b c u z => by
      by_cases hb : b = p
      · subst hb; rw [upd_same] at z; exact absurd (Option.some.inj z) (hz c u)
      · rw [upd_ne hb] at z; exact a.nf b c u z⟩

inductive S where
  | sh (d : D) | own (ds : List D) | ob (p : Addr) (ds : List D)
abbrev Ro := List (Option S)
structure Rl (K : PySem.W.Frag) (F0 H0 F H : Hp) (σ : St) (ρ : Ro) : Prop where
  ext : Ext F0 H0 F H
  len : σ.length = ρ.length
  sh : ∀ (i : Nat) d, ρ[i]? = some (some (.sh d)) → ∃ v, σ[i]? = some (some v) ∧ Rep K F v d
  own : ∀ (i : Nat) ds, ρ[i]? = some (some (.own ds)) → ∃ p xs, σ[i]? = some (some (.ref p)) ∧ F p = none ∧ H p = some (.lst xs) ∧ Reps K F xs ds ∧ H0 p = none
  inj : ∀ (i j : Nat) p ds es, i ≠ j → ρ[i]? = some (some (.own ds)) → ρ[j]? = some (some (.own es)) → σ[i]? = some (some (.ref p)) → σ[j]? = some (some (.ref p)) → False
  ob : ∀ (i : Nat) p ds, ρ[i]? = some (some (.ob p ds)) → σ[i]? = some (some (.ref p)) ∧ F p = none ∧ H0 p = none ∧ ∃ xs, H p = some (.lst xs) ∧ Reps K F xs ds
  obn : ∀ (i j : Nat) p ds es, ρ[i]? = some (some (.ob p ds)) → ρ[j]? = some (some (.own es)) → σ[j]? = some (some (.ref p)) → False
  ob1 : ∀ (i j : Nat) p q ds es, ρ[i]? = some (some (.ob p ds)) → ρ[j]? = some (some (.ob q es)) → i = j
def nob : Option S → Prop
  | some (.ob _ _) => False
  | _ => True
theorem set_ob {ρ : Ro} {i j : Nat} {x : Option S} {p : Addr} {ds : List D} (e : (ρ.set i x)[j]? = some (some (.ob p ds))) (hx : nob x := by exact True.intro) : i ≠ j ∧ ρ[j]? = some (some (.ob p ds)) := by
  by_cases hj : i = j
  · subst hj
    rcases Nat.lt_or_ge i ρ.length with z | z
    · rw [List.getElem?_set_self z] at e; cases e; exact hx.elim
    · rw [List.getElem?_eq_none (by simpa using z)] at e; cases e
  · rw [List.getElem?_set_ne hj] at e; exact ⟨hj, e⟩
section
variable {K : PySem.W.Frag} {F0 H0 F H F' H' : Hp} {σ : St} {ρ : Ro}
theorem Rl.fh (r : Rl K F0 H0 F H σ ρ) : Same F H := r.ext.fh
theorem Rl.go (r : Rl K F0 H0 F H σ ρ) (e : Ext F H F' H') : Rl K F0 H0 F' H' σ ρ where
  ext := r.ext.trans e
  len := r.len
  sh := fun i d h => let ⟨v, a, b⟩ := r.sh i d h; ⟨v, a, b.mono e.ff⟩
  own := fun i ds h => by
    obtain ⟨p, xs, a, b, c, d, z⟩ := r.own i ds h
    refine ⟨p, xs, a, ?_, e.hh _ _ c, d.mono e.ff, z⟩
    cases q : F' p with
    | none => rfl
    | some o => have := e.new p b (by rw [q]; simp); rw [this] at c; cases c
  inj := r.inj
  ob := fun i p ds h => by
    obtain ⟨a, b, c, xs, d, z⟩ := r.ob i p ds h
    refine ⟨a, ?_, c, xs, e.hh _ _ d, z.mono e.ff⟩
    cases q : F' p with
    | none => rfl
    | some o => have := e.new p b (by rw [q]; simp); rw [this] at d; cases d
  obn := r.obn
  ob1 := r.ob1
theorem Rl.set (r : Rl K F0 H0 F H σ ρ) {i : Nat} {v : V} {d : D} (h : Rep K F v d) : Rl K F0 H0 F H (σ.set i (some v)) (ρ.set i (some (.sh d))) where
  ext := r.ext
  len := by simp [r.len]
  sh := fun j d' e => by
    by_cases hj : i = j
    · subst hj
      have hl : i < ρ.length := by
        rcases Nat.lt_or_ge i ρ.length with z | z
        · exact z
        · rw [List.getElem?_eq_none (by simpa using z)] at e; cases e
      rw [List.getElem?_set_self hl] at e
      cases e
      exact ⟨v, by rw [List.getElem?_set_self (by rw [r.len]; exact hl)], h⟩
    · rw [List.getElem?_set_ne hj] at e ⊢
      exact r.sh j d' e
  own := fun j ds e => by
    by_cases hj : i = j
    · subst hj
      have hl : i < ρ.length := by
        rcases Nat.lt_or_ge i ρ.length with z | z
        · exact z
        · rw [List.getElem?_eq_none (by simpa using z)] at e; cases e
      rw [List.getElem?_set_self hl] at e
      cases e
    · rw [List.getElem?_set_ne hj] at e ⊢
      exact r.own j ds e
  inj := fun j k p ds es hjk e1 e2 e3 e4 => by
    have n1 : i ≠ j := fun z => by
      subst z
      have hl : i < ρ.length := by
        rcases Nat.lt_or_ge i ρ.length with z | z
        · exact z
        · rw [List.getElem?_eq_none (by simpa using z)] at e1; cases e1
      rw [List.getElem?_set_self hl] at e1; cases e1
    have n2 : i ≠ k := fun z => by
      subst z
      have hl : i < ρ.length := by
        rcases Nat.lt_or_ge i ρ.length with z | z
        · exact z
        · rw [List.getElem?_eq_none (by simpa using z)] at e2; cases e2
      rw [List.getElem?_set_self hl] at e2; cases e2
    rw [List.getElem?_set_ne n1] at e1 e3
    rw [List.getElem?_set_ne n2] at e2 e4
    exact r.inj j k p ds es hjk e1 e2 e3 e4
  ob := fun j p ds e => by
    obtain ⟨n, e⟩ := set_ob e
    rw [List.getElem?_set_ne n]; exact r.ob j p ds e
  obn := fun j k p ds es e1 e2 e3 => by
    obtain ⟨n, e1⟩ := set_ob e1
    have n2 : i ≠ k := fun z => by
      subst z
      have hl : i < ρ.length := by
        rcases Nat.lt_or_ge i ρ.length with z | z
        · exact z
        · rw [List.getElem?_eq_none (by simpa using z)] at e2; cases e2
      rw [List.getElem?_set_self hl] at e2; cases e2
    rw [List.getElem?_set_ne n2] at e2 e3
    exact r.obn j k p ds es e1 e2 e3
  ob1 := fun j k p q ds es e1 e2 => r.ob1 j k p q ds es (set_ob e1).2 (set_ob e2).2
theorem Rl.setOwn (r : Rl K F0 H0 F H σ ρ) {i : Nat} {p : Addr} {xs : List V} {ds : List D} (hF : F p = none) (hH : H p = some (.lst xs)) (h : Reps K F xs ds) (h0 : H0 p = none)
    (fr : ∀ (j : Nat) es, i ≠ j → ρ[j]? = some (some (.own es)) → σ[j]? = some (some (.ref p)) → False) (fo : ∀ (j : Nat) q es, ρ[j]? = some (some (.ob q es)) → q ≠ p) : Rl K F0 H0 F H (σ.set i (some (.ref p))) (ρ.set i (some (.own ds))) where
  ext := r.ext
  len := by simp [r.len]
  sh := fun j d' e => by
    by_cases hj : i = j
    · subst hj
      have hl : i < ρ.length := by
        rcases Nat.lt_or_ge i ρ.length with z | z
        · exact z
        · rw [List.getElem?_eq_none (by simpa using z)] at e; cases e
      rw [List.getElem?_set_self hl] at e
      cases e
    · rw [List.getElem?_set_ne hj] at e ⊢
      exact r.sh j d' e
  own := fun j es e => by
    by_cases hj : i = j
    · subst hj
      have hl : i < ρ.length := by
        rcases Nat.lt_or_ge i ρ.length with z | z
        · exact z
        · rw [List.getElem?_eq_none (by simpa using z)] at e; cases e
      rw [List.getElem?_set_self hl] at e
      cases e
      exact ⟨p, xs, by rw [List.getElem?_set_self (by rw [r.len]; exact hl)], hF, hH, h, h0⟩
    · rw [List.getElem?_set_ne hj] at e ⊢
      exact r.own j es e
  inj := fun j k q es es' hjk e1 e2 e3 e4 => by
    by_cases n1 : i = j
    · subst n1
      rw [List.getElem?_set_ne hjk] at e2 e4
      have hl : i < σ.length := by
        rcases Nat.lt_or_ge i σ.length with z | z
        · exact z
        · rw [List.getElem?_eq_none (by simpa using z)] at e3; cases e3
      rw [List.getElem?_set_self hl] at e3
      cases e3
      exact fr k es' hjk e2 e4
    · rw [List.getElem?_set_ne n1] at e1 e3
      by_cases n2 : i = k
      · subst n2
        have hl : i < σ.length := by
          rcases Nat.lt_or_ge i σ.length with z | z
          · exact z
          · rw [List.getElem?_eq_none (by simpa using z)] at e4; cases e4
        rw [List.getElem?_set_self hl] at e4
        cases e4
        exact fr j es n1 e1 e3
      · rw [List.getElem?_set_ne n2] at e2 e4
        exact r.inj j k q es es' hjk e1 e2 e3 e4
  ob := fun j q es e => by
    obtain ⟨n, e⟩ := set_ob e
    rw [List.getElem?_set_ne n]; exact r.ob j q es e
  obn := fun j k q es es' e1 e2 e3 => by
    obtain ⟨n, e1⟩ := set_ob e1
    by_cases n2 : i = k
    · subst n2
      have hl : i < σ.length := by
        rcases Nat.lt_or_ge i σ.length with z | z
        · exact z
        · rw [List.getElem?_eq_none (by simpa using z)] at e3; cases e3
      rw [List.getElem?_set_self hl] at e3
      cases e3
      exact fo j p es e1 rfl
    · rw [List.getElem?_set_ne n2] at e2 e3
      exact r.obn j k q es es' e1 e2 e3
  ob1 := fun j k p q ds es e1 e2 => r.ob1 j k p q ds es (set_ob e1).2 (set_ob e2).2
theorem Rl.freeze (r : Rl K F0 H0 F H σ ρ) {i : Nat} {ds : List D} (h : ρ[i]? = some (some (.own ds))) : ∃ F', Rl K F0 H0 F' H σ (ρ.set i (some (.sh (.lst ds)))) ∧ Same F F' := by
  obtain ⟨p, xs, a, b, c, d, z⟩ := r.own i ds h
  have hl : i < ρ.length := (List.getElem?_eq_some_iff.mp h).1
  have e : Ext F0 H0 (upd F p (.lst xs)) H := r.ext.freeze b z c
  have ff : Same F (upd F p (.lst xs)) := (Same.refl F).put b
  refine ⟨upd F p (.lst xs), ⟨e, by simp [r.len], fun j d' q => ?_, fun j es q => ?_, fun j k q es es' hjk e1 e2 e3 e4 => ?_, fun j q es e1 => ?_, fun j k q es es' e1 e2 e3 => ?_, fun j k q q' es es' e1 e2 => r.ob1 j k q q' es es' (set_ob e1).2 (set_ob e2).2⟩, ff⟩
  · by_cases hj : i = j
    · subst hj
      rw [List.getElem?_set_self hl] at q
      cases q
      exact ⟨_, a, .lst (SqL.of upd_same) (d.mono ff)⟩
    · rw [List.getElem?_set_ne hj] at q
      obtain ⟨v, v1, v2⟩ := r.sh j d' q
      exact ⟨v, v1, v2.mono ff⟩
  · by_cases hj : i = j
    · subst hj
      rw [List.getElem?_set_self hl] at q
      cases q
    · rw [List.getElem?_set_ne hj] at q
      obtain ⟨p', xs', a', b', c', d', z'⟩ := r.own j es q
      have hp : p' ≠ p := fun w => r.inj i j p ds es hj h q a (by rw [← w]; exact a')
      exact ⟨p', xs', a', by rw [upd_ne hp]; exact b', c', d'.mono ff, z'⟩
  · have n1 : i ≠ j := fun w => by subst w; rw [List.getElem?_set_self hl] at e1; cases e1
    have n2 : i ≠ k := fun w => by subst w; rw [List.getElem?_set_self hl] at e2; cases e2
    rw [List.getElem?_set_ne n1] at e1
    rw [List.getElem?_set_ne n2] at e2
    exact r.inj j k q es es' hjk e1 e2 e3 e4
  · obtain ⟨n, e1⟩ := set_ob e1
    obtain ⟨o1, o2, o3, zs, o4, o5⟩ := r.ob j q es e1
    have hp : q ≠ p := fun w => r.obn j i q es ds e1 h (by rw [w]; exact a)
    exact ⟨o1, by rw [upd_ne hp]; exact o2, o3, zs, o4, o5.mono ff⟩
  · obtain ⟨n, e1⟩ := set_ob e1
    have n2 : i ≠ k := fun w => by subst w; rw [List.getElem?_set_self hl] at e2; cases e2
    rw [List.getElem?_set_ne n2] at e2
    exact r.obn j k q es es' e1 e2 e3
theorem Rl.write (r : Rl K F0 H0 F H σ ρ) {i : Nat} {p : Addr} {ys : List V} {ds es : List D} (h : ρ[i]? = some (some (.own ds))) (hp : σ[i]? = some (some (.ref p))) (hy : Reps K F ys es) :
    Rl K F0 H0 F (upd H p (.lst ys)) σ (ρ.set i (some (.own es))) := by
  obtain ⟨p', xs', a, b, c, d, z⟩ := r.own i ds h
  rw [hp] at a; cases a
  have hl : i < ρ.length := (List.getElem?_eq_some_iff.mp h).1
  refine ⟨⟨r.ext.ff, r.ext.hh.put z, r.ext.fh.put b, r.ext.new, r.ext.nf⟩, by simp [r.len], fun j d' q => ?_, fun j fs q => ?_, fun j k q fs fs' hjk e1 e2 e3 e4 => ?_, fun j q fs e1 => ?_, fun j k q fs fs' e1 e2 e3 => ?_, fun j k q q' es es' e1 e2 => r.ob1 j k q q' es es' (set_ob e1).2 (set_ob e2).2⟩
  · by_cases hj : i = j
    · subst hj
      rw [List.getElem?_set_self hl] at q
      cases q
    · rw [List.getElem?_set_ne hj] at q
      exact r.sh j d' q
  · by_cases hj : i = j
    · subst hj
      rw [List.getElem?_set_self hl] at q
      cases q
      exact ⟨p, ys, hp, b, upd_same, hy, z⟩
    · rw [List.getElem?_set_ne hj] at q
      obtain ⟨p2, xs2, a2, b2, c2, d2, z2⟩ := r.own j fs q
      have hpp : p2 ≠ p := fun w => r.inj i j p ds fs hj h q hp (by rw [← w]; exact a2)
      exact ⟨p2, xs2, a2, b2, by rw [upd_ne hpp]; exact c2, d2, z2⟩
  · have back : ∀ (m : Nat) gs, (ρ.set i (some (S.own es)))[m]? = some (some (.own gs)) → ∃ gs', ρ[m]? = some (some (.own gs')) := fun m gs e => by
      by_cases hm : i = m
      · subst hm; exact ⟨ds, h⟩
      · rw [List.getElem?_set_ne hm] at e; exact ⟨gs, e⟩
    obtain ⟨g1, e1⟩ := back j fs e1
    obtain ⟨g2, e2⟩ := back k fs' e2
    exact r.inj j k q g1 g2 hjk e1 e2 e3 e4
  · obtain ⟨n, e1⟩ := set_ob e1
    obtain ⟨o1, o2, o3, zs, o4, o5⟩ := r.ob j q fs e1
    have hpp : q ≠ p := fun w => r.obn j i q fs ds e1 h (by rw [w]; exact hp)
    exact ⟨o1, o2, o3, zs, by rw [upd_ne hpp]; exact o4, o5⟩
  · obtain ⟨n, e1⟩ := set_ob e1
    by_cases n2 : i = k
    · subst n2; exact r.obn j i q fs ds e1 h e3
    · rw [List.getElem?_set_ne n2] at e2
      exact r.obn j k q fs fs' e1 e2 e3
theorem Rl.writeB (r : Rl K F0 H0 F H σ ρ) {i : Nat} {p : Addr} {ys : List V} {ds es : List D} (h : ρ[i]? = some (some (.ob p ds))) (hy : Reps K F ys es) :
    Rl K F0 H0 F (upd H p (.lst ys)) σ (ρ.set i (some (.ob p es))) := by
  obtain ⟨a, b, z, xs', c, d⟩ := r.ob i p ds h
  have hl : i < ρ.length := (List.getElem?_eq_some_iff.mp h).1
  have back : ∀ (j : Nat) q fs, (ρ.set i (some (S.ob p es)))[j]? = some (some (.ob q fs)) → j = i ∧ q = p ∧ fs = es := fun j q fs e => by
    by_cases hj : i = j
    · subst hj; rw [List.getElem?_set_self hl] at e; cases e; exact ⟨rfl, rfl, rfl⟩
    · rw [List.getElem?_set_ne hj] at e; exact absurd (r.ob1 i j p q ds fs h e) hj
  have other : ∀ (j : Nat) fs, (ρ.set i (some (S.ob p es)))[j]? = some (some (.own fs)) → i ≠ j ∧ ρ[j]? = some (some (.own fs)) := fun j fs e => by
    by_cases hj : i = j
    · subst hj; rw [List.getElem?_set_self hl] at e; cases e
    · rw [List.getElem?_set_ne hj] at e; exact ⟨hj, e⟩
  refine ⟨⟨r.ext.ff, r.ext.hh.put z, r.ext.fh.put b, r.ext.new, r.ext.nf⟩, by simp [r.len], fun j d' q => ?_, fun j fs q => ?_, fun j k q fs fs' hjk e1 e2 e3 e4 => r.inj j k q fs fs' hjk (other j fs e1).2 (other k fs' e2).2 e3 e4, fun j q fs e1 => ?_, fun j k q fs fs' e1 e2 e3 => ?_, fun j k q q' fs fs' e1 e2 => ?_⟩
  · by_cases hj : i = j
    · subst hj; rw [List.getElem?_set_self hl] at q; cases q
    · rw [List.getElem?_set_ne hj] at q; exact r.sh j d' q
  · obtain ⟨n, e⟩ := other j fs q
    obtain ⟨p2, xs2, a2, b2, c2, d2, z2⟩ := r.own j fs e
    have hpp : p2 ≠ p := fun w => r.obn i j p ds fs h e (by rw [← w]; exact a2)
    exact ⟨p2, xs2, a2, b2, by rw [upd_ne hpp]; exact c2, d2, z2⟩
  · obtain ⟨e2, e3, e4⟩ := back j q fs e1
    subst e2 e3 e4
    exact ⟨a, b, z, ys, upd_same, hy⟩
  · obtain ⟨e4, e5, _⟩ := back j q fs e1
    subst e4 e5
    exact r.obn j k q ds fs' h (other k fs' e2).2 e3
  · rw [(back j q fs e1).1, (back k q' fs' e2).1]
end
end L2

set_option Elab.async false
set_option linter.all false
set_option maxRecDepth 100000
namespace L2
open PySem PySem.Spec PyProof.Rows

abbrev ME := Ro → Option D
abbrev ML := Ro → Option (List D)
abbrev MB := Ro → Option Bool
def TD (K : PySem.W.Frag) (m : ME) : TE := fun σ H Q => ∃ F0 H0 F ρ d, Rl K F0 H0 F H σ ρ ∧ m ρ = some d ∧ ∀ v F' H', Ext F H F' H' → Rep K F' v d → Q v H'
def TF (K : PySem.W.Frag) (m : ML) : TE := fun σ H Q => ∃ F0 H0 F ρ ds, Rl K F0 H0 F H σ ρ ∧ m ρ = some ds ∧ ∀ p xs F' H', Ext F H F' H' → H p = none → F' p = none → H' p = some (.lst xs) → Reps K F' xs ds → Q (.ref p) H'
def TB (K : PySem.W.Frag) (m : ML) : TE := fun σ H Q => ∃ F0 H0 F ρ ds, Rl K F0 H0 F H σ ρ ∧ m ρ = some ds ∧ ∀ p xs F' H', Ext F H F' H' → SqL K H' p xs → Reps K F' xs ds → Q (.ref p) H'
def TC (K : PySem.W.Frag) (c : MB) : TT := fun σ H Q => ∃ F0 H0 F ρ b, Rl K F0 H0 F H σ ρ ∧ c ρ = some b ∧ ∀ F' H', Ext F H F' H' → Q b H'
def TAs (K : PySem.W.Frag) (m : ML) : TA := fun σ H Q => ∃ F0 H0 F ρ ds, Rl K F0 H0 F H σ ρ ∧ m ρ = some ds ∧ ∀ vs F' H', Ext F H F' H' → Reps K F' vs ds → Q vs H'
def PD (X : Cx) (e : Expr) (m : ME) : Prop := PE X e (TD X.K m)
def PF (X : Cx) (e : Expr) (m : ML) : Prop := PE X e (TF X.K m)
def PB (X : Cx) (e : Expr) (m : ML) : Prop := PE X e (TB X.K m)
def PC' (X : Cx) (e : Expr) (c : MB) : Prop := PT X e (TC X.K c)
def PCw (X : Cx) (e : Expr) (c : MB) : Prop := PW X e (TC X.K c)
def PAs (X : Cx) (es : List Expr) (m : ML) : Prop := PA X es (TAs X.K m)

section
variable {X : Cx} {a b c e : Expr} {ma mb : ME} {pos : Pos}
theorem PE.imp {t t' : TE} (h : PE X e t) (i : ∀ σ H Q, t' σ H Q → t σ H Q) : PE X e t' := fun pins s σ H Q I q => h pins s σ H Q I (i σ H Q q)
theorem PT.imp {t t' : TT} (h : PT X e t) (i : ∀ σ H Q, t' σ H Q → t σ H Q) : PT X e t' := fun pins s σ H Q I q => h pins s σ H Q I (i σ H Q q)
theorem PW.imp {t t' : TT} (h : PW X e t) (i : ∀ σ H Q, t' σ H Q → t σ H Q) : PW X e t' := fun w pins s σ H Q I q => h w pins s σ H Q I (i σ H Q q)
theorem PA.imp {es : List Expr} {t t' : TA} (h : PA X es t) (i : ∀ σ H Q, t' σ H Q → t σ H Q) : PA X es t' := fun pos pins s σ H Q I q => h pos pins s σ H Q I (i σ H Q q)

def mvar (i : Nat) : ME := fun ρ => match ρ[i]? with | some (some (.sh d)) => some d | _ => none
def bvar (i : Nat) : ML := fun ρ => match ρ[i]? with | some (some (.sh (.lst ds))) => some ds | some (some (.own ds)) => some ds | some (some (.ob _ ds)) => some ds | _ => none
def mc (d : D) : ME := fun _ => some d
theorem pd_var (i : Nat) {x : Str} {pos : Pos} (h : PE X (.Name x pos) (tVar i)) : PD X (.Name x pos) (mvar i) := h.imp fun σ H Q ⟨F0, H0, F, ρ, d, r, e, q⟩ => by
  unfold mvar at e
  split at e
  · rename_i h'
    cases e
    obtain ⟨v, e1, e2⟩ := r.sh i _ h'
    exact ⟨v, e1, q v F H (.refl r.fh) e2⟩
  · cases e
theorem pb_var (i : Nat) {x : Str} {pos : Pos} (h : PE X (.Name x pos) (tVar i)) : PB X (.Name x pos) (bvar i) := h.imp fun σ H Q ⟨F0, H0, F, ρ, d, r, e, q⟩ => by
  unfold bvar at e
  split at e
  · rename_i ds h'
    cases e
    obtain ⟨v, e1, e2⟩ := r.sh i _ h'
    cases e2 with
    | lst s rs => exact ⟨_, e1, q _ _ F H (.refl r.fh) (r.fh.seq s) rs⟩
  · rename_i ds h'
    cases e
    obtain ⟨p, xs, e1, e2, e3, e4, _⟩ := r.own i _ h'
    exact ⟨_, e1, q _ _ F H (.refl r.fh) (SqL.of e3) e4⟩
  · rename_i p ds h'
    cases e
    obtain ⟨e1, e2, _, xs, e3, e4⟩ := r.ob i p _ h'
    exact ⟨_, e1, q _ _ F H (.refl r.fh) (SqL.of e3) e4⟩
  · cases e
theorem pd_int {i : Int} {j pos} : PD X (.Constant (.int i) j pos) (mc (.int i)) := pe_int.imp fun σ H Q ⟨F0, H0, F, ρ, d, r, e, q⟩ => by
  cases e; exact q _ F H (.refl r.fh) (.int i)
theorem pd_bl {b : Bool} {j pos} : PD X (.Constant (.bool b) j pos) (mc (.bl b)) := pe_bl.imp fun σ H Q ⟨F0, H0, F, ρ, d, r, e, q⟩ => by
  cases e; exact q _ F H (.refl r.fh) (.bl b)
def mlst (m : ML) : ME := fun ρ => (m ρ).map .lst
def aslst (m : ME) : ML := fun ρ => match m ρ with | some (.lst ds) => some ds | _ => none
theorem pf_pd {m : ML} (h : PF X e m) : PD X e (mlst m) := h.imp fun σ H Q ⟨F0, H0, F, ρ, d, r, e, q⟩ => by
  unfold mlst at e
  cases hm : m ρ with
  | none => rw [hm] at e; cases e
  | some ds =>
    rw [hm] at e; cases e
    refine ⟨F0, H0, F, ρ, ds, r, hm, fun p xs F' H' x hp hF hH rs => ?_⟩
    exact q _ (upd F' p (.lst xs)) H' (x.freeze hF hp hH) (.lst (SqL.of upd_same) (rs.mono ((Same.refl F').put hF)))
theorem pd_pb (h : PD X e ma) : PB X e (aslst ma) := h.imp fun σ H Q ⟨F0, H0, F, ρ, d, r, e, q⟩ => by
  unfold aslst at e
  split at e
  · rename_i ds hm
    cases e
    refine ⟨F0, H0, F, ρ, _, r, hm, fun v F' H' x rv => ?_⟩
    cases rv with
    | lst s rs => exact q _ _ F' H' x (x.fh.seq s) rs
  · cases e
theorem pf_pb {m : ML} (h : PF X e m) : PB X e m := h.imp fun σ H Q ⟨F0, H0, F, ρ, d, r, e, q⟩ =>
  ⟨F0, H0, F, ρ, d, r, e, fun p xs F' H' x hp hF hH rs => q p xs F' H' x (SqL.of hH) rs⟩

@[irreducible] def m2 (f : D → D → Option D) (x y : ME) : ME := fun ρ => (x ρ).bind fun d => (y ρ).bind fun e => f d e
def OpD (K : PySem.W.Frag) (r : R2) (f : D → D → Option D) : Prop := ∀ (F H : Hp) (x y : V) (d e g : D) (Q : VK), Same F H → Rep K F x d → Rep K F y e → f d e = some g → (∀ v F' H', Ext F H F' H' → Rep K F' v g → Q v H') → r x y H Q
theorem m2_some {f : D → D → Option D} {ρ : Ro} {g : D} (h : m2 f ma mb ρ = some g) : ∃ d e, ma ρ = some d ∧ mb ρ = some e ∧ f d e = some g := by
  unfold m2 at h
  cases h1 : ma ρ with
  | none => rw [h1] at h; cases h
  | some d =>
    cases h2 : mb ρ with
    | none => rw [h1, h2] at h; cases h
    | some e => rw [h1, h2] at h; exact ⟨d, e, rfl, rfl, h⟩
theorem op_d {r : R2} {f : D → D → Option D} (hf : OpD X.K r f) {σ : St} {H : Hp} {Q : VK} (h : TD X.K (m2 f ma mb) σ H Q) : tOp r (TD X.K ma) (TD X.K mb) σ H Q := by
  obtain ⟨F0, H0, F, ρ, g, rl, e, q⟩ := h
  obtain ⟨d, e', h1, h2, h3⟩ := m2_some e
  refine ⟨F0, H0, F, ρ, d, rl, h1, fun x F1 H1 x1 r1 => ⟨F0, H0, F1, ρ, e', rl.go x1, h2, fun y F2 H2 x2 r2 => ?_⟩⟩
  exact hf F2 H2 x y d e' g Q x2.fh (r1.mono x2.ff) r2 h3 fun v F' H' x3 => q v F' H' ((x1.trans x2).trans x3)
theorem pd_op {op : Operator} {r : R2} {f : D → D → Option D} (ho : OpR X (binaryOp op) r) (hf : OpD X.K r f) (ha : PD X a ma) (hb : PD X b mb) : PD X (.BinOp a op b pos) (m2 f ma mb) := (pe_op ho ha hb).imp fun _ _ _ h => op_d hf h
theorem pd_cmp {op : CmpOp} {r : R2} {f : D → D → Option D} (ho : OpR X (compareOp op) r) (hf : OpD X.K r f) (ha : PD X a ma) (hb : PD X b mb) (hm : behindInMarks op b = false) : PD X (.Compare a [op] [b] pos) (m2 f ma mb) := (pe_cmpR ho ha hb hm).imp fun _ _ _ h => op_d hf h
def mtest (m : ME) : MB := fun ρ => match m ρ with | some (.bl b) => some b | _ => none
theorem pc_cmp {op : CmpOp} {r : R2} {f : D → D → Option D} (ho : OpR X (compareOp op) r) (hf : OpD X.K r f) (ha : PD X a ma) (hb : PD X b mb) (hm : behindInMarks op b = false) : PC' X (.Compare a [op] [b] pos) (mtest (m2 f ma mb)) := (pt_cmpR ho ha hb hm).imp fun σ H Q ⟨F0, H0, F, ρ, g, rl, e, q⟩ => by
  unfold mtest at e
  split at e
  · rename_i k hk
    cases e
    refine op_d hf ⟨F0, H0, F, ρ, .bl g, rl, hk, fun v F' H' x r => ?_⟩
    cases r
    exact ⟨_, rfl, q F' H' x⟩
  · cases e

def int2 (g : Int → Int → Option D) : D → D → Option D
  | .int i, .int j => g i j
  | _, _ => none
theorem opd_rI0 {K : PySem.W.Frag} {g : Int → Int → V} {g' : Int → Int → D} (hg : ∀ F i j, Rep K F (g i j) (g' i j)) : OpD K (rI0 g) (int2 fun i j => some (g' i j)) := by
  intro F H x y d e w Q s r1 r2 h q
  cases r1 <;> cases r2 <;> first | (cases h; done) | skip
  rename_i i j
  cases h
  exact ⟨i, j, rfl, rfl, q _ F H (.refl s) (hg F i j)⟩
theorem opd_rI {K : PySem.W.Frag} {C : Int → Int → Prop} {ok : Int → Int → Bool} {g : Int → Int → V} {g' : Int → Int → D} (hC : ∀ i j, ok i j = true → C i j) (hg : ∀ F i j, Rep K F (g i j) (g' i j)) :
    OpD K (rI C g) (int2 fun i j => if ok i j = true then some (g' i j) else none) := by
  intro F H x y d e w Q s r1 r2 h q
  cases r1 <;> cases r2 <;> first | (cases h; done) | skip
  rename_i i j
  have h : (if ok i j = true then some (g' i j) else none) = some w := h
  split at h
  · rename_i hk
    cases h
    exact ⟨i, j, rfl, rfl, hC i j hk, q _ F H (.refl s) (hg F i j)⟩
  · cases h
def subD : D → D → Option D := int2 fun i j => some (.int (i - j))
def mulOk (i j : Int) : Bool := (decide (-(2 ^ 64) < i) && decide (i < 2 ^ 64)) || (decide (-(2 ^ 64) < j) && decide (j < 2 ^ 64))
def mulD : D → D → Option D := int2 fun i j => if mulOk i j = true then some (.int (i * j)) else none
def fdivOk (_ j : Int) : Bool := decide (0 < j) && decide (j < 1073741824)
def fdivD : D → D → Option D := int2 fun i j => if fdivOk i j = true then some (.int (i / j)) else none
def modOk (_ j : Int) : Bool := decide (0 < j)
def modD : D → D → Option D := int2 fun i j => if modOk i j = true then some (.int (i % j)) else none
def powOk (i j : Int) : Bool := decide (0 ≤ j) && decide (j ≤ 1000000) && decide (i.natAbs < 2 ^ 64)
def powD : D → D → Option D := int2 fun i j => if powOk i j = true then some (.int (i ^ j.toNat)) else none
def shlD : D → D → Option D := int2 fun i j => if powOk i j = true then some (.int (i * 2 ^ j.toNat)) else none
def shrOk (_ j : Int) : Bool := decide (0 ≤ j)
def shrD : D → D → Option D := int2 fun i j => if shrOk i j = true then some (.int (i / 2 ^ j.toNat)) else none
def andD : D → D → Option D := int2 fun i j => some (.int (Builtin.bitAnd i j))
def ltD : D → D → Option D := int2 fun i j => some (.bl (decide (i < j)))
def leD : D → D → Option D := int2 fun i j => some (.bl (decide (i ≤ j)))
def gtD : D → D → Option D := int2 fun i j => some (.bl (decide (j < i)))
def geD : D → D → Option D := int2 fun i j => some (.bl (decide (j ≤ i)))
theorem opd_sub {K : PySem.W.Frag} : OpD K (rI0 fun i j => .int (i - j)) subD := opd_rI0 fun F i j => .int _
theorem opd_mul {K : PySem.W.Frag} : OpD K (rI CMul fun i j => .int (i * j)) mulD := opd_rI (fun i j h => by
  unfold mulOk at h
  simp only [Bool.or_eq_true, Bool.and_eq_true, decide_eq_true_eq] at h
  exact h) fun F i j => .int _
theorem opd_fdiv {K : PySem.W.Frag} : OpD K (rI CDiv fun i j => .int (i / j)) fdivD := opd_rI (fun i j h => by
  unfold fdivOk at h
  simp only [Bool.and_eq_true, decide_eq_true_eq] at h
  exact h) fun F i j => .int _
theorem opd_mod {K : PySem.W.Frag} : OpD K (rI (fun _ j => 0 < j) fun i j => .int (i % j)) modD := opd_rI (fun i j h => of_decide_eq_true h) fun F i j => .int _
theorem opd_pow {K : PySem.W.Frag} : OpD K (rI CPow fun i j => .int (i ^ j.toNat)) powD := opd_rI (fun i j h => by
  unfold powOk at h
  simp only [Bool.and_eq_true, decide_eq_true_eq] at h
  exact ⟨h.1.1, h.1.2, h.2⟩) fun F i j => .int _
theorem opd_shr {K : PySem.W.Frag} : OpD K (rI (fun _ j => 0 ≤ j) fun i j => .int (i / 2 ^ j.toNat)) shrD := opd_rI (fun i j h => of_decide_eq_true h) fun F i j => .int _
theorem opd_lt {K : PySem.W.Frag} : OpD K (rI0 fun i j => .bl (decide (i < j))) ltD := opd_rI0 fun F i j => .bl _
theorem opd_le {K : PySem.W.Frag} : OpD K (rI0 fun i j => .bl (decide (i ≤ j))) leD := opd_rI0 fun F i j => .bl _
theorem opd_gt {K : PySem.W.Frag} : OpD K (rI0 fun i j => .bl (decide (j < i))) gtD := opd_rI0 fun F i j => .bl _
theorem opd_ge {K : PySem.W.Frag} : OpD K (rI0 fun i j => .bl (decide (j ≤ i))) geD := opd_rI0 fun F i j => .bl _
def eqS : D → D → Option Bool
  | .non, .non => some true | .non, .int _ => some false | .int _, .non => some false | .non, .bl _ => some false | .bl _, .non => some false | .non, .str _ => some false | .str _, .non => some false
  | .int i, .int j => some (i == j) | .bl i, .bl j => some (i == j) | .str i, .str j => some (i == j)
  | .int _, .str _ => some false | .str _, .int _ => some false | .bl _, .str _ => some false | .str _, .bl _ => some false
  | _, _ => none
def eqSD (d e : D) : Option D := (eqS d e).map .bl
def neSD (d e : D) : Option D := (eqS d e).map fun b => .bl (!b)
theorem opd_eqS {K : PySem.W.Frag} : OpD K rEq eqSD := by
  intro F H x y d e w Q s r1 r2 h q
  cases r1 <;> cases r2 <;> first | (cases h; done) | (cases h; refine ⟨rfl, ?_⟩; first | exact q _ F H (.refl s) (.bl _) | (rw [dec_int]; exact q _ F H (.refl s) (.bl _)) | (rw [dec_bl]; exact q _ F H (.refl s) (.bl _)) | (rw [dec_str]; exact q _ F H (.refl s) (.bl _)))
theorem opd_neS {K : PySem.W.Frag} : OpD K rNe neSD := by
  intro F H x y d e w Q s r1 r2 h q
  cases r1 <;> cases r2 <;> first | (cases h; done) | (cases h; refine ⟨rfl, ?_⟩; first | exact q _ F H (.refl s) (.bl _) | (rw [dec_int]; exact q _ F H (.refl s) (.bl _)) | (rw [dec_bl]; exact q _ F H (.refl s) (.bl _)) | (rw [dec_str]; exact q _ F H (.refl s) (.bl _)))
def m1 (f : D → Option D) (x : ME) : ME := fun ρ => (x ρ).bind f
def negD : D → Option D
  | .int i => some (.int (-i))
  | _ => none
theorem m1_some {f : D → Option D} {ρ : Ro} {g : D} (h : m1 f ma ρ = some g) : ∃ d, ma ρ = some d ∧ f d = some g := by
  unfold m1 at h
  cases h1 : ma ρ with
  | none => rw [h1] at h; cases h
  | some d => rw [h1] at h; exact ⟨d, rfl, h⟩
theorem pd_neg (ha : PD X a ma) : PD X (.UnaryOp .USub a pos) (m1 negD ma) := (pe_un un_neg ha).imp fun σ H Q ⟨F0, H0, F, ρ, g, rl, e, q⟩ => by
  obtain ⟨d, h1, h2⟩ := m1_some e
  refine ⟨F0, H0, F, ρ, d, rl, h1, fun x F1 H1 x1 r1 => ?_⟩
  cases r1 <;> first | (cases h2; done) | skip
  cases h2
  exact ⟨_, rfl, q _ F1 H1 x1 (.int _)⟩
def notD : D → Option D
  | .bl b => some (.bl (!b))
  | _ => none
theorem pd_not (ha : PD X a ma) : PD X (.UnaryOp .Not a pos) (m1 notD ma) := (pe_not ha).imp fun σ H Q ⟨F0, H0, F, ρ, g, rl, e, q⟩ => by
  obtain ⟨d, h1, h2⟩ := m1_some e
  refine ⟨F0, H0, F, ρ, d, rl, h1, fun x F1 H1 x1 r1 => ?_⟩
  cases r1 <;> first | (cases h2; done) | skip
  cases h2
  exact ⟨_, rfl, q _ F1 H1 x1 (.bl _)⟩

def mand (x y : ME) : ME := fun ρ => match x ρ with | some (.bl true) => y ρ | some (.bl false) => some (.bl false) | _ => none
def mor (x y : ME) : ME := fun ρ => match x ρ with | some (.bl true) => some (.bl true) | some (.bl false) => y ρ | _ => none
theorem pd_one {op} (h : PD X a ma) : PD X (.BoolOp op [a] pos) ma := pe_one h
theorem pd_and {rest : List Expr} (ha : PD X a ma) (hb : PD X (.BoolOp .And (b :: rest) pos) mb) : PD X (.BoolOp .And (a :: b :: rest) pos) (mand ma mb) := (pe_and ha hb).imp fun σ H Q ⟨F0, H0, F, ρ, g, rl, e, q⟩ => by
  unfold mand at e
  split at e
  · rename_i h1
    refine ⟨F0, H0, F, ρ, _, rl, h1, fun x F1 H1 x1 r1 => ?_⟩
    cases r1
    refine ⟨true, rfl, ?_⟩
    refine iteT ?_
    exact ⟨F0, H0, F1, ρ, g, rl.go x1, e, fun y F2 H2 x2 r2 => q y F2 H2 (x1.trans x2) r2⟩
  · rename_i h1
    cases e
    refine ⟨F0, H0, F, ρ, _, rl, h1, fun x F1 H1 x1 r1 => ?_⟩
    cases r1
    refine ⟨false, rfl, ?_⟩
    refine iteF ?_
    exact q _ F1 H1 x1 (.bl _)
  · cases e
def truD : D → Option Bool
  | .non => some false
  | .bl b => some b
  | .int i => some (i != 0)
  | .str y => if y.length ≤ sizeLine then some ((y.length : Int) != 0) else none
  | .lst ds => some (!ds.isEmpty)
  | .tup ds => some (!ds.isEmpty)
def mtru (m : ME) : MB := fun ρ => (m ρ).bind truD
theorem isEmpty_reps {K : PySem.W.Frag} {F : Hp} {vs : List V} {ds : List D} (h : Reps K F vs ds) : (!ds.isEmpty) = !vs.isEmpty := by cases h <;> rfl
theorem pc_tru (ha : PD X a ma) (he : ∀ whole, isTrue a X.env whole = (do let v ← whole; standAt a.pos; holding [v] (truthy v)) := by intro _; rfl) : PC' X a (mtru ma) := (pt_truth ha he).imp fun σ H Q ⟨F0, H0, F, ρ, b, rl, e, q⟩ => by
  unfold mtru at e
  cases h1 : ma ρ with
  | none => rw [h1] at e; cases e
  | some d =>
    rw [h1] at e
    refine ⟨F0, H0, F, ρ, d, rl, h1, fun x F1 H1 x1 r1 => ⟨b, ?_, q F1 H1 x1⟩⟩
    cases r1 with
    | non => cases e; rfl
    | bl => cases e; rfl
    | int => cases e; rfl
    | str x =>
      have e : (if x.length ≤ sizeLine then some ((x.length : Int) != 0) else none) = some b := e
      split at e
      · rename_i hz
        cases e
        exact ⟨hz, rfl⟩
      · cases e
    | lst s rs => cases e; exact .inl ⟨_, x1.fh.seq s, isEmpty_reps rs⟩
    | tup s rs => cases e; exact .inr (.inl ⟨_, x1.fh.seqT s, isEmpty_reps rs⟩)
variable {ca cb : MB}
def cand (x y : MB) : MB := fun ρ => match x ρ with | some true => y ρ | some false => some false | none => none
def cor (x y : MB) : MB := fun ρ => match x ρ with | some true => some true | some false => y ρ | none => none
def cnot (x : MB) : MB := fun ρ => (x ρ).map (!·)
theorem pc_w (h : PCw X a ca) : PC' X a ca := h.pt
theorem pw1_and (h : PC' X a ca) : PCw X (.BoolOp .And [a] pos) ca := pw_and1 h
theorem pw1_or (h : PC' X a ca) : PCw X (.BoolOp .Or [a] pos) ca := pw_or1 h
theorem pcw_and {rest : List Expr} (ha : PC' X a ca) (hb : PCw X (.BoolOp .And (b :: rest) pos) cb) : PCw X (.BoolOp .And (a :: b :: rest) pos) (cand ca cb) := (pw_and ha hb).imp fun σ H Q ⟨F0, H0, F, ρ, g, rl, e, q⟩ => by
  unfold cand at e
  split at e
  · rename_i h1
    refine ⟨F0, H0, F, ρ, _, rl, h1, fun F1 H1 x1 => ?_⟩
    refine iteT ?_
    exact ⟨F0, H0, F1, ρ, g, rl.go x1, e, fun F2 H2 x2 => q F2 H2 (x1.trans x2)⟩
  · rename_i h1
    cases e
    refine ⟨F0, H0, F, ρ, _, rl, h1, fun F1 H1 x1 => ?_⟩
    refine iteF ?_
    exact q F1 H1 x1
  · cases e
theorem pcw_or {rest : List Expr} (ha : PC' X a ca) (hb : PCw X (.BoolOp .Or (b :: rest) pos) cb) : PCw X (.BoolOp .Or (a :: b :: rest) pos) (cor ca cb) := (pw_or ha hb).imp fun σ H Q ⟨F0, H0, F, ρ, g, rl, e, q⟩ => by
  unfold cor at e
  split at e
  · rename_i h1
    cases e
    refine ⟨F0, H0, F, ρ, _, rl, h1, fun F1 H1 x1 => ?_⟩
    refine iteT ?_
    exact q F1 H1 x1
  · rename_i h1
    refine ⟨F0, H0, F, ρ, _, rl, h1, fun F1 H1 x1 => ?_⟩
    refine iteF ?_
    exact ⟨F0, H0, F1, ρ, g, rl.go x1, e, fun F2 H2 x2 => q F2 H2 (x1.trans x2)⟩
  · cases e
theorem pc_not (ha : PC' X a ca) : PC' X (.UnaryOp .Not a pos) (cnot ca) := (pt_not ha).imp fun σ H Q ⟨F0, H0, F, ρ, g, rl, e, q⟩ => by
  unfold cnot at e
  cases h1 : ca ρ with
  | none => rw [h1] at e; cases e
  | some k =>
    rw [h1] at e; cases e
    exact ⟨F0, H0, F, ρ, k, rl, h1, fun F1 H1 x1 => q F1 H1 x1⟩
def mite (c : MB) (x y : ME) : ME := fun ρ => match c ρ with | some true => x ρ | some false => y ρ | none => none
def anil : ML := fun _ => some []
@[irreducible] def acons (x : ME) (r : ML) : ML := fun ρ => (x ρ).bind fun d => (r ρ).bind fun ds => some (d :: ds)
theorem acons_some {r : ML} {ρ : Ro} {gs : List D} (h : acons ma r ρ = some gs) : ∃ d ds, ma ρ = some d ∧ r ρ = some ds ∧ gs = d :: ds := by
  unfold acons at h
  cases h1 : ma ρ with
  | none => rw [h1] at h; cases h
  | some d =>
    cases h2 : r ρ with
    | none => rw [h1, h2] at h; cases h
    | some ds => rw [h1, h2] at h; cases h; exact ⟨d, ds, rfl, rfl, rfl⟩
theorem pas_nil : PAs X [] anil := pa_nil.imp fun σ H Q ⟨F0, H0, F, ρ, g, rl, e, q⟩ => by
  cases e; exact q [] F H (.refl rl.fh) .nil
theorem pas_cons {es : List Expr} {m : ML} (ha : PD X a ma) (hr : PAs X es m) (hs : starEach (a :: es) X.env = (false, eval a X.env) :: starEach es X.env := by rfl) : PAs X (a :: es) (acons ma m) := (pa_cons ha hr hs).imp fun σ H Q ⟨F0, H0, F, ρ, g, rl, e, q⟩ => by
  obtain ⟨d, ds, h1, h2, rfl⟩ := acons_some e
  refine ⟨F0, H0, F, ρ, d, rl, h1, fun x F1 H1 x1 r1 => ⟨F0, H0, F1, ρ, ds, rl.go x1, h2, fun xs F2 H2 x2 r2 => ?_⟩⟩
  exact q _ F2 H2 (x1.trans x2) (.cons (r1.mono x2.ff) r2)
@[irreducible] def sized (m : ML) : ML := fun ρ => match m ρ with | some ds => if ds.length ≤ sizeLine then some ds else none | none => none
theorem sized_some {m : ML} {ρ : Ro} {gs : List D} (h : sized m ρ = some gs) : m ρ = some gs ∧ gs.length ≤ sizeLine := by
  unfold sized at h
  cases h1 : m ρ with
  | none => rw [h1] at h; cases h
  | some ds =>
    rw [h1] at h
    have h : (if ds.length ≤ sizeLine then some ds else none) = some gs := h
    split at h
    · rename_i hz; cases h; exact ⟨rfl, hz⟩
    · cases h
theorem pf_lst {es : List Expr} {m : ML} (h : PAs X es m) : PF X (.List es pos) (sized m) := (pe_lst h).imp fun σ H Q ⟨F0, H0, F, ρ, g, rl, e, q⟩ => by
  obtain ⟨h1, h2⟩ := sized_some e
  refine ⟨F0, H0, F, ρ, g, rl, h1, fun vs F1 H1 x1 r1 => ⟨by rw [r1.length]; exact h2, fun p hp => ?_⟩⟩
  exact q p vs F1 _ (x1.trans (Ext.own x1.fh hp)) (x1.hh.free hp) (x1.fh.free hp) upd_same r1
def mtup (m : ML) : ME := fun ρ => (sized m ρ).map .tup
theorem pd_tup {es : List Expr} {m : ML} {k : Nat} (h : PAs X es m) : PD X (.Tuple es k pos) (mtup m) := (pe_tup h).imp fun σ H Q ⟨F0, H0, F, ρ, g, rl, e, q⟩ => by
  unfold mtup at e
  cases h1 : sized m ρ with
  | none => rw [h1] at e; cases e
  | some ds =>
    rw [h1] at e; cases e
    obtain ⟨h1, h2⟩ := sized_some h1
    refine ⟨F0, H0, F, ρ, ds, rl, h1, fun vs F1 H1 x1 r1 => ⟨by rw [r1.length]; exact h2, fun p hp => ?_⟩⟩
    exact q _ _ _ (x1.trans (Ext.laid x1.fh hp)) (.tup (SqT.of upd_same) (r1.mono ((Same.refl F1).put (x1.fh.free hp))))

def mlen (m : ML) : ME := fun ρ => (m ρ).map fun ds => .int ds.length
@[irreducible] def mix (m : ML) (i : ME) : ME := fun ρ => (m ρ).bind fun ds => (i ρ).bind fun | .int k => atI ds k | _ => none
theorem atI_reps {K : PySem.W.Frag} {F : Hp} {vs : List V} {ds : List D} {k : Int} {d : D} (r : Reps K F vs ds) (h : atI ds k = some d) : ∃ v, atI vs k = some v ∧ Rep K F v d := by
  unfold atI at h ⊢
  rw [r.length]
  cases q : ixN ds.length k with
  | none => rw [q] at h; cases h
  | some j =>
    rw [q] at h
    exact r.get h
theorem pd_ix {ml : ML} (ha : PB X a ml) (hb : PD X b mb) (hs : PlainIx b := by exact fun _ _ => rfl) : PD X (.Subscript a b pos) (mix ml mb) := (pe_ix ix_list ha hb hs).imp fun σ H Q ⟨F0, H0, F, ρ, g, rl, e, q⟩ => by
  unfold mix at e
  cases h1 : ml ρ with
  | none => rw [h1] at e; cases e
  | some ds =>
    cases h2 : mb ρ with
    | none => rw [h1, h2] at e; cases e
    | some i =>
      rw [h1, h2] at e
      refine ⟨F0, H0, F, ρ, ds, rl, h1, fun p xs F1 H1 x1 s1 r1 => ⟨F0, H0, F1, ρ, i, rl.go x1, h2, fun y F2 H2 x2 r2 => ?_⟩⟩
      cases r2 <;> first | (cases e; done) | skip
      rename_i k
      obtain ⟨v, h3, h4⟩ := atI_reps (r1.mono x2.ff) (show atI ds k = some g from e)
      exact ⟨p, xs, k, v, rfl, rfl, x2.hh.seq s1, h3, q v F2 H2 (x1.trans x2) h4⟩
theorem cut_reps {K : PySem.W.Frag} {F : Hp} {vs : List V} {ds : List D} (r : Reps K F vs ds) (lo hi : Option Int) : Reps K F (cutV vs lo hi) ((ds.drop (HT.sIx ds.length 0 lo)).take (HT.sIx ds.length ds.length hi - HT.sIx ds.length 0 lo)) := by
  unfold cutV
  rw [r.length]
  exact (r.drop _).take _
def cutL (ds : List D) (lo hi : Option Int) : List D := (ds.drop (HT.sIx ds.length 0 lo)).take (HT.sIx ds.length ds.length hi - HT.sIx ds.length 0 lo)
abbrev MO := Ro → Option (Option Int)
def onone : MO := fun _ => some none
def osome (m : ME) : MO := fun ρ => (m ρ).bind fun | .int i => some (some i) | _ => none
def TOs (K : PySem.W.Frag) (m : MO) : TO := fun σ H Q => ∃ F0 H0 F ρ i, Rl K F0 H0 F H σ ρ ∧ m ρ = some i ∧ ∀ F' H', Ext F H F' H' → Q i H'
def POs (X : Cx) (e : Option Expr) (m : MO) : Prop := PO X e (TOs X.K m)
theorem PO.imp {e : Option Expr} {t t' : TO} (h : PO X e t) (i : ∀ σ H Q, t' σ H Q → t σ H Q) : PO X e t' := fun pins s σ H Q I q => h pins s σ H Q I (i σ H Q q)
theorem pos_none : POs X none onone := PO.imp po_none fun σ H Q ⟨F0, H0, F, ρ, i, rl, e, q⟩ => by cases e; exact q F H (.refl rl.fh)
theorem pos_some (h : PD X a ma) : POs X (some a) (osome ma) := PO.imp (po_some h) fun σ H Q ⟨F0, H0, F, ρ, i, rl, e, q⟩ => by
  unfold osome at e
  cases h1 : ma ρ with
  | none => rw [h1] at e; cases e
  | some d =>
    rw [h1] at e
    refine ⟨F0, H0, F, ρ, d, rl, h1, fun v F1 H1 x1 r1 => ?_⟩
    cases r1 <;> first | (cases e; done) | skip
    cases e
    exact ⟨_, rfl, q F1 H1 x1⟩
@[irreducible] def mcut (m : ML) (lo hi : MO) : ML := fun ρ => (m ρ).bind fun ds => (lo ρ).bind fun l => (hi ρ).bind fun h => some (cutL ds l h)
theorem pf_cut {ml : ML} {lo hi : Option Expr} {l h : MO} (ha : PB X a ml) (hl : POs X lo l) (hh : POs X hi h) (hE : PE X e (tSl (rSlL X.K) (TB X.K ml) (TOs X.K l) (TOs X.K h))) : PF X e (mcut ml l h) := hE.imp fun σ H Q ⟨F0, H0, F, ρ, g, rl, e, q⟩ => by
  unfold mcut at e
  cases h1 : ml ρ with
  | none => rw [h1] at e; cases e
  | some ds =>
    cases h2 : l ρ with
    | none => rw [h1, h2] at e; cases e
    | some i =>
      cases h3 : h ρ with
      | none => rw [h1, h2, h3] at e; cases e
      | some j =>
        rw [h1, h2, h3] at e; cases e
        refine ⟨F0, H0, F, ρ, ds, rl, h1, fun p xs F1 H1 x1 s1 r1 => ⟨F0, H0, F1, ρ, i, rl.go x1, h2, fun F2 H2 x2 => ⟨F0, H0, F2, ρ, j, (rl.go x1).go x2, h3, fun F3 H3 x3 => ?_⟩⟩⟩
        refine ⟨p, xs, rfl, x3.hh.seq (x2.hh.seq s1), fun w hw => ?_⟩
        have xx := (x1.trans x2).trans x3
        exact q w _ F3 _ (xx.trans (Ext.own x3.fh hw)) (xx.hh.free hw) (x3.fh.free hw) upd_same (cut_reps (r1.mono (x2.ff.trans x3.ff)) i j)
end
end L2

set_option Elab.async false
set_option linter.all false
set_option maxRecDepth 100000
namespace L2
open PySem PySem.Spec PyProof.Rows

theorem list_add_any (l : Addr) (items : Array Value) (n : Nat) (b : Addr) (items2 : Array Value) (n2 : Nat) (dd dd2 : Option Addr) (sl sl2 : Array (Option Value)) (hc0 : items.size + items2.size ≤ sizeLine) :
    Meets (Builtin.«list.__add__» ⟨[.ref l, .ref b], []⟩) (fun _ R s => s.heap.get? l = some { cls := .type "list", dict := dd, data := .seq items n, slots := sl } ∧ s.heap.get? b = some { cls := .type "list", dict := dd2, data := .seq items2 n2, slots := sl2 } ∧ R (.ok (.ret (Value.ref s.heap.objs.size))) { s with heap := s.heap.push { cls := Value.type "list", data := Data.seq (items ++ items2) }, toks := s.toks }) :=
  .of_wp fun prog w A R s h => by obtain ⟨hp, g, d, tk, os⟩ := s; obtain ⟨hl, hb, h⟩ := h; have f1 := AutoSeq1.idx_int; have f2 := AutoSeq1.sub_tuple_tuple; have f3 := AutoSeq1.sub_list_list; have f4 := AutoSeq1.sub_tuple_list; have f5 := AutoSeq1.sub_list_tuple; wp_walk using AutoSeq1.wpAny_loadPart' hl, AutoSeq1.wpAny_loadPart' hb; exact ⟨_, rfl, h⟩

section
variable {X : Cx} {a b c e : Expr} {ma mb : ME} {pos : Pos}
def rCatS (K : PySem.W.Frag) : R2 := fun x y H Q => ∃ l b xs zs, x = .ref l ∧ y = .ref b ∧ SqL K H l xs ∧ SqL K H b zs ∧ xs.length + zs.length ≤ sizeLine ∧ ∀ p, H p = none → Q (.ref p) (upd H p (.lst (xs ++ zs)))
theorem op_catS : OpR X (binaryOp .Add) (rCatS X.K) := by
  intro pins s σ H x y v u Q I rx ry h
  obtain ⟨l, b, xs, zs, rfl, rfl, hH, hB, hz, q⟩ := h
  cases rx
  cases ry
  obtain ⟨its, r, ⟨⟨cl, dd, dt, sl⟩, n, e, hc, hd, hs⟩, z⟩ := I.list hH
  obtain ⟨its2, r2, ⟨⟨cl2, dd2, dt2, sl2⟩, n2, e2, hc2, hd2, hs2⟩, z2⟩ := I.list hB
  simp only at hc hd hs hc2 hd2 hs2
  subst hc hd hs hc2 hd2 hs2
  have l1 := r.length
  have l2 := r2.length
  refine concat_meets (T := "list") ⟨_, e, rfl⟩ ⟨_, e2, rfl⟩ PySem.noFill_list_add PySem.seq_list_add F.slot_list_add F.entry_list_add (F.args_list_add_2 _ _) (list_add_any l its.toArray n b its2.toArray n2 none none sl sl2 (by rw [List.size_toArray, List.size_toArray]; omega)) ⟨e, e2, ?_⟩
  have ea : its.toArray ++ its2.toArray = (its ++ its2).toArray := by simp
  rw [ea]
  exact ⟨.ref _, _, I.lnew (t' := s.toks) (r.append r2) (by rw [List.length_append]; omega), rfl, q _ I.fresh⟩

@[irreducible] def mcat (x y : ML) : ML := fun ρ => (x ρ).bind fun ds => (y ρ).bind fun es => if ds.length + es.length ≤ sizeLine then some (ds ++ es) else none
theorem mcat_some {x y : ML} {ρ : Ro} {gs : List D} (h : mcat x y ρ = some gs) : ∃ ds es, x ρ = some ds ∧ y ρ = some es ∧ ds.length + es.length ≤ sizeLine ∧ gs = ds ++ es := by
  unfold mcat at h
  cases h1 : x ρ with
  | none => rw [h1] at h; cases h
  | some ds =>
    cases h2 : y ρ with
    | none => rw [h1, h2] at h; cases h
    | some es =>
      rw [h1, h2] at h
      have h : (if ds.length + es.length ≤ sizeLine then some (ds ++ es) else none) = some gs := h
      split at h
      · rename_i hz; cases h; exact ⟨ds, es, rfl, rfl, hz, rfl⟩
      · cases h
theorem pf_cat {x y : ML} (ha : PB X a x) (hb : PB X b y) : PF X (.BinOp a .Add b pos) (mcat x y) := (pe_op op_catS ha hb).imp fun σ H Q ⟨F0, H0, F, ρ, g, rl, e, q⟩ => by
  obtain ⟨ds, es, h1, h2, hz, rfl⟩ := mcat_some e
  refine ⟨F0, H0, F, ρ, ds, rl, h1, fun p xs F1 H1 x1 s1 r1 => ⟨F0, H0, F1, ρ, es, rl.go x1, h2, fun p2 ys F2 H2 x2 s2 r2 => ?_⟩⟩
  refine ⟨p, p2, xs, ys, rfl, rfl, x2.hh.seq s1, s2, by rw [r1.length, r2.length]; exact hz, fun w hw => ?_⟩
  have xx := x1.trans x2
  exact q w _ F2 _ (xx.trans (Ext.own x2.fh hw)) (xx.hh.free hw) (x2.fh.free hw) upd_same ((r1.mono x2.ff).append r2)
def addD : D → D → Option D
  | .int i, .int j => some (.int (i + j))
  | .lst ds, .lst es => if ds.length + es.length ≤ sizeLine then some (.lst (ds ++ es)) else none
  | _, _ => none
theorem opd_add {K : PySem.W.Frag} : OpD K (fun x y H Q => (rI0 fun i j => V.int (i + j)) x y H Q ∨ rCatS K x y H Q) addD := by
  intro F H x y d e w Q s r1 r2 h q
  cases r1 with
  | int i =>
    cases r2 <;> first | (cases h; done) | skip
    cases h
    exact .inl ⟨_, _, rfl, rfl, q _ F H (.refl s) (.int _)⟩
  | lst s1 t1 =>
    rename_i p1 xs1 ds1
    cases r2 with
    | lst s2 t2 =>
      rename_i p2 xs2 ds2
      have h : (if ds1.length + ds2.length ≤ sizeLine then some (D.lst (ds1 ++ ds2)) else none) = some w := h
      split at h
      · rename_i hz
        cases h
        refine .inr ⟨_, _, _, _, rfl, rfl, s.seq s1, s.seq s2, by rw [t1.length, t2.length]; exact hz, fun p hp => ?_⟩
        exact q _ _ _ (Ext.laid s hp) (.lst (SqL.of upd_same) ((t1.append t2).mono ((Same.refl F).put (s.free hp))))
      · cases h
    | _ => cases h
  | _ => cases r2 <;> cases h
theorem pd_add (ha : PD X a ma) (hb : PD X b mb) : PD X (.BinOp a .Add b pos) (m2 addD ma mb) := pd_op (OpR.or op_add op_catS) opd_add ha hb
theorem pd_sub (ha : PD X a ma) (hb : PD X b mb) : PD X (.BinOp a .Sub b pos) (m2 subD ma mb) := pd_op op_sub opd_sub ha hb
theorem pd_mul (ha : PD X a ma) (hb : PD X b mb) : PD X (.BinOp a .Mult b pos) (m2 mulD ma mb) := pd_op op_mul opd_mul ha hb
theorem pd_fdiv (ha : PD X a ma) (hb : PD X b mb) : PD X (.BinOp a .FloorDiv b pos) (m2 fdivD ma mb) := pd_op op_fdiv opd_fdiv ha hb
theorem pd_mod (ha : PD X a ma) (hb : PD X b mb) : PD X (.BinOp a .Mod b pos) (m2 modD ma mb) := pd_op op_mod opd_mod ha hb
theorem pd_pow (ha : PD X a ma) (hb : PD X b mb) : PD X (.BinOp a .Pow b pos) (m2 powD ma mb) := pd_op op_pow opd_pow ha hb
theorem pd_shr (ha : PD X a ma) (hb : PD X b mb) : PD X (.BinOp a .RShift b pos) (m2 shrD ma mb) := pd_op op_shr opd_shr ha hb
@[irreducible] def call1 (f : List D → Option D) (m : ML) : ME := fun ρ => (m ρ).bind f
def CallD (K : PySem.W.Frag) (r : List V → Hp → VK → Prop) (f : List D → Option D) : Prop := ∀ (F H : Hp) (vs : List V) (ds : List D) (g : D) (Q : VK), Same F H → Reps K F vs ds → f ds = some g → (∀ v F' H', Ext F H F' H' → Rep K F' v g → Q v H') → r vs H Q
theorem call_d {r : List V → Hp → VK → Prop} {f : List D → Option D} {m : ML} (hf : CallD X.K r f) {σ : St} {H : Hp} {Q : VK} (h : TD X.K (call1 f m) σ H Q) : tCB r (TAs X.K m) σ H Q := by
  obtain ⟨F0, H0, F, ρ, g, rl, e, q⟩ := h
  unfold call1 at e
  cases h1 : m ρ with
  | none => rw [h1] at e; cases e
  | some ds =>
    rw [h1] at e
    exact ⟨F0, H0, F, ρ, ds, rl, h1, fun vs F1 H1 x1 r1 => hf F1 H1 vs ds g Q x1.fh r1 e fun v F' H' x2 => q v F' H' (x1.trans x2)⟩
def lenF : List D → Option D
  | [.lst ds] => some (.int ds.length)
  | [.tup ds] => some (.int ds.length)
  | [.str x] => if x.length ≤ sizeLine then some (.int x.length) else none
  | _ => none
theorem calld_len {K : PySem.W.Frag} : CallD K (fun xs H Q => (∃ p ys, xs = [.ref p] ∧ (SqL K H p ys ∨ SqT K H p ys) ∧ Q (.int ys.length) H) ∨ (∃ z, xs = [.str z] ∧ z.length ≤ sizeLine ∧ Q (.int z.length) H)) lenF := by
  intro F H vs ds g Q s r h q
  cases r with
  | nil => cases h
  | cons r rr =>
    cases rr with
    | cons _ _ => revert h; unfold lenF; intro h; split at h <;> simp_all
    | nil =>
      cases r with
      | lst s1 t1 => cases h; exact .inl ⟨_, _, rfl, .inl (s.seq s1), by rw [t1.length]; exact q _ F H (.refl s) (.int _)⟩
      | tup s1 t1 => cases h; exact .inl ⟨_, _, rfl, .inr (s.seqT s1), by rw [t1.length]; exact q _ F H (.refl s) (.int _)⟩
      | str x =>
        have h : (if x.length ≤ sizeLine then some (D.int x.length) else none) = some g := h
        split at h
        · rename_i hz; cases h; exact .inr ⟨_, rfl, hz, q _ F H (.refl s) (.int _)⟩
        · cases h
      | _ => cases h
theorem pd_len {e : Expr} {p : Pos} {m : ML} (hg : Gl X "len") (hm : X.mg "len" = none) (ha : PAs X [e] m) (he : starEach [e] X.env = (false, eval e X.env) :: starEach [] X.env := by rfl) (hpl : (backTo pos (starEach [] X.env)).any (·.1) = false := by rfl) : PD X (.Call (.Name "len" p) [e] [] pos) (call1 lenF m) :=
  (pe_callB (CallR.or call_len_seq call_len_str) hg hm PySem.boot_len ha (by decide) (by decide) he hpl).imp fun _ _ _ h => call_d calld_len h
theorem pd_lenB {e : Expr} {p : Pos} {m : ML} (hg : Gl X "len") (hm : X.mg "len" = none) (ha : PB X e m) (hs : starEach (e :: []) X.env = (false, eval e X.env) :: starEach [] X.env := by rfl) (he : starEach [e] X.env = (false, eval e X.env) :: starEach [] X.env := by rfl) (hpl : (backTo pos (starEach [] X.env)).any (·.1) = false := by rfl) : PD X (.Call (.Name "len" p) [e] [] pos) (mlen m) :=
  (pe_callB call_len_seq hg hm PySem.boot_len (pa_cons ha pa_nil hs) (by decide) (by decide) he hpl).imp fun σ H Q ⟨F0, H0, F, ρ, g, rl, e, q⟩ => by
    unfold mlen at e
    cases h1 : m ρ with
    | none => rw [h1] at e; cases e
    | some ds =>
      rw [h1] at e; cases e
      refine ⟨F0, H0, F, ρ, ds, rl, h1, fun p xs F1 H1 x1 s1 r1 => ⟨p, xs, rfl, .inl s1, ?_⟩⟩
      rw [r1.length]
      exact q _ F1 H1 x1 (.int _)
def absF : List D → Option D
  | [.int i] => some (.int (if i < 0 then -i else i))
  | _ => none
def two2 (k : Int → Int → Int) : List D → Option D
  | [.int i, .int j] => some (.int (k i j))
  | _ => none
theorem calld_two {K : PySem.W.Frag} {k : Int → Int → Int} : CallD K (fun xs H Q => ∃ i j, xs = [.int i, .int j] ∧ Q (.int (k i j)) H) (two2 k) := by
  intro F H vs ds g Q s r h q
  cases r with
  | nil => cases h
  | cons r rr =>
    cases rr with
    | nil => revert h; unfold two2; intro h; split at h <;> simp_all
    | cons r2 rr =>
      cases rr with
      | cons _ _ => revert h; unfold two2; intro h; split at h <;> simp_all
      | nil =>
        cases r <;> cases r2 <;> first | (cases h; done) | (cases h; exact ⟨_, _, rfl, q _ F H (.refl s) (.int _)⟩)
def max2F : List D → Option D := two2 fun i j => if j > i then j else i
def min2F : List D → Option D := two2 fun i j => if j < i then j else i
theorem pd_max2 {x y : Expr} {p : Pos} {m : ML} (hc : X.calm = true) (hg : Gl X "max") (hm : X.mg "max" = none) (ha : PAs X [x, y] m) (he : starEach [x, y] X.env = (false, eval x X.env) :: starEach [y] X.env := by rfl) (hpl : (backTo pos (starEach [y] X.env)).any (·.1) = false := by rfl) : PD X (.Call (.Name "max" p) [x, y] [] pos) (call1 max2F m) :=
  (pe_callB (call_max2 hc) hg hm PyProof.Rows.boot_max ha (by decide) (by decide) he hpl).imp fun _ _ _ h => call_d (calld_two (k := fun i j => if j > i then j else i)) h
theorem pd_min2 {x y : Expr} {p : Pos} {m : ML} (hc : X.calm = true) (hg : Gl X "min") (hm : X.mg "min" = none) (ha : PAs X [x, y] m) (he : starEach [x, y] X.env = (false, eval x X.env) :: starEach [y] X.env := by rfl) (hpl : (backTo pos (starEach [y] X.env)).any (·.1) = false := by rfl) : PD X (.Call (.Name "min" p) [x, y] [] pos) (call1 min2F m) :=
  (pe_callB (call_min2 hc) hg hm PyProof.Rows.boot_min ha (by decide) (by decide) he hpl).imp fun _ _ _ h => call_d (calld_two (k := fun i j => if j < i then j else i)) h
def intF : List D → Option D
  | [.int i] => some (.int i)
  | [.bl k] => some (.int (if k then 1 else 0))
  | _ => none
theorem pf_list {e : Expr} {p : Pos} {m : ML} (hg : Gl X "list") (hm : X.mg "list" = none) (ha : PB X e m) (hv : bootBuiltins "list" = some (.type "list")) (hs : starEach (e :: []) X.env = (false, eval e X.env) :: starEach [] X.env := by rfl) (hpl : (backTo pos (starEach [] X.env)).any (·.1) = false := by rfl) : PF X (.Call (.Name "list" p) [e] [] pos) m :=
  (pe_callTy call_list_of hg hm hv (pa_cons ha pa_nil hs) (by decide) (by decide) hs hpl).imp fun σ H Q ⟨F0, H0, F, ρ, ds, rl, e, q⟩ => by
    refine ⟨F0, H0, F, ρ, ds, rl, e, fun p xs F1 H1 x1 s1 r1 => ⟨p, xs, rfl, .inl s1, fun w hw => ?_⟩⟩
    exact q w _ F1 _ (x1.trans (Ext.own x1.fh hw)) (x1.hh.free hw) (x1.fh.free hw) upd_same r1
end
end L2

set_option Elab.async false
set_option linter.all false
set_option maxRecDepth 100000
namespace L2
open PySem PySem.Spec PyProof.Rows

inductive Out where
  | nx (ρ : Ro) | bk (ρ : Ro) | ct (ρ : Ro) | rt (d : D) | rf (ds : List D) | rp (d : D) (ds : List D) | rg (d : D) (p : Addr) (r : List D) | rgf (ds : List D) (p : Addr) (r : List D)
abbrev MS := Ro → Option Out
def okO (K : PySem.W.Frag) (F0 H0 Fb : Hp) (Dn : Ends) : Out → Prop
  | .nx ρ => ∀ F H σ, Rl K F0 H0 F H σ ρ → Same Fb F → Dn.nx σ H
  | .bk ρ => ∀ F H σ, Rl K F0 H0 F H σ ρ → Same Fb F → Dn.bk σ H
  | .ct ρ => ∀ F H σ, Rl K F0 H0 F H σ ρ → Same Fb F → Dn.ct σ H
  | .rt d => ∀ v F H, Ext F0 H0 F H → Rep K F v d → Dn.rt v H
  | .rf ds => ∀ p xs F H, Ext F0 H0 F H → H0 p = none → F p = none → H p = some (.lst xs) → Reps K F xs ds → Dn.rt (.ref p) H
  | .rp d ds => ∀ t v p xs F H, Ext F0 H0 F H → H0 t = none → H0 p = none → t ≠ p → F t = none → F p = none → H t = some (.tup [v, .ref p]) → H p = some (.lst xs) → Rep K F v d → Reps K F xs ds → Dn.rt (.ref t) H
  | .rg d p r => ∀ v F H xs, Ext F0 H0 F H → Rep K F v d → F p = none → H p = some (.lst xs) → Reps K F xs r → Dn.rt v H
  | .rgf ds p r => ∀ q ys F H xs, Ext F0 H0 F H → H0 q = none → F q = none → q ≠ p → H q = some (.lst ys) → Reps K F ys ds → F p = none → H p = some (.lst xs) → Reps K F xs r → Dn.rt (.ref q) H
def TSd (K : PySem.W.Frag) (m : MS) : TS := fun Dn σ H => ∃ F0 H0 F ρ o, Rl K F0 H0 F H σ ρ ∧ m ρ = some o ∧ okO K F0 H0 F Dn o
theorem okO.mono {K : PySem.W.Frag} {F0 H0 Fb Fb' : Hp} {Dn : Ends} (s : Same Fb Fb') : ∀ {o : Out}, okO K F0 H0 Fb Dn o → okO K F0 H0 Fb' Dn o
  | .nx _, h => fun F H σ rl q => h F H σ rl (s.trans q)
  | .bk _, h => fun F H σ rl q => h F H σ rl (s.trans q)
  | .ct _, h => fun F H σ rl q => h F H σ rl (s.trans q)
  | .rt _, h => h
  | .rf _, h => h
  | .rp _ _, h => h
  | .rg _ _ _, h => h
  | .rgf _ _ _, h => h
def PSd (X : Cx) (st : Stmt) (m : MS) : Prop := PS X st (TSd X.K m)
def PSsd (X : Cx) (st : List Stmt) (m : MS) : Prop := PSs X st (TSd X.K m)

section
variable {X : Cx} {a b c e : Expr} {ma mb : ME} {pos : Pos} {st : Stmt} {rest : List Stmt} {m1 m2' : MS}
theorem PS.imp {t t' : TS} (h : PS X st t) (i : ∀ D σ H, t' D σ H → t D σ H) : PS X st t' := fun pins s σ H D I q => h pins s σ H D I (i D σ H q)
theorem PSs.imp {sts : List Stmt} {t t' : TS} (h : PSs X sts t) (i : ∀ D σ H, t' D σ H → t D σ H) : PSs X sts t' := fun pins s σ H D I q => h pins s σ H D I (i D σ H q)

def mnext : MS := fun ρ => some (.nx ρ)
def mseq (x y : MS) : MS := fun ρ => match x ρ with | some (.nx ρ') => y ρ' | o => o
theorem pssd_nil : PSsd X [] mnext := pss_nil.imp fun D σ H ⟨F0, H0, F, ρ, o, rl, e, ok⟩ => by cases e; exact ok F H σ rl (Same.refl _)
theorem pssd_cons (h1 : PSd X st m1) (h2 : PSsd X rest m2') : PSsd X (st :: rest) (mseq m1 m2') := (pss_cons h1 h2).imp fun D σ H ⟨F0, H0, F, ρ, o, rl, e, ok⟩ => by
  unfold mseq at e
  cases h : m1 ρ with
  | none => rw [h] at e; cases e
  | some o1 =>
    rw [h] at e
    cases o1 with
    | nx ρ1 => exact ⟨F0, H0, F, ρ, _, rl, h, fun F' H' σ' rl' sf => ⟨F0, H0, F', ρ1, o, rl', e, ok.mono sf⟩⟩
    | bk ρ1 => cases e; exact ⟨F0, H0, F, ρ, _, rl, h, ok⟩
    | ct ρ1 => cases e; exact ⟨F0, H0, F, ρ, _, rl, h, ok⟩
    | rt d => cases e; exact ⟨F0, H0, F, ρ, _, rl, h, ok⟩
    | rf d => cases e; exact ⟨F0, H0, F, ρ, _, rl, h, ok⟩
    | rp d ds => cases e; exact ⟨F0, H0, F, ρ, _, rl, h, ok⟩
    | rg d p r => cases e; exact ⟨F0, H0, F, ρ, _, rl, h, ok⟩
    | rgf d p r => cases e; exact ⟨F0, H0, F, ρ, _, rl, h, ok⟩
theorem pssd_one (h1 : PSd X st m1) : PSsd X [st] m1 := pss_one h1
def mif (c : MB) (x y : MS) : MS := fun ρ => match c ρ with | some true => x ρ | some false => y ρ | none => none
theorem psd_if {ca : MB} {x y : List Stmt} {mx my : MS} (hc : PC' X c ca) (hx : PSsd X x mx) (hy : PSsd X y my) : PSd X (.If c x y pos) (mif ca mx my) := (ps_if hc hx hy).imp fun D σ H ⟨F0, H0, F, ρ, o, rl, e, ok⟩ => by
  unfold mif at e
  split at e
  · rename_i h1
    refine ⟨F0, H0, F, ρ, _, rl, h1, fun F1 H1 x1 => iteT ⟨F0, H0, F1, ρ, o, rl.go x1, e, ok.mono x1.ff⟩⟩
  · rename_i h1
    refine ⟨F0, H0, F, ρ, _, rl, h1, fun F1 H1 x1 => iteF ⟨F0, H0, F1, ρ, o, rl.go x1, e, ok.mono x1.ff⟩⟩
  · cases e
def mnever : MS := fun _ => none
theorem psd_never : PSd X st mnever := ps_never.imp fun D σ H ⟨F0, H0, F, ρ, o, rl, e, ok⟩ => by cases e
def mbreak : MS := fun ρ => some (.bk ρ)
def mcont : MS := fun ρ => some (.ct ρ)
def mset (i : Nat) (x : ME) : MS := fun ρ => (x ρ).map fun d => .nx (ρ.set i (some (.sh d)))
def msetF (i : Nat) (x : ML) : MS := fun ρ => (x ρ).map fun ds => .nx (ρ.set i (some (.own ds)))
theorem asg_d {t : TE} {i : Nat} (h : PS X st (tAsg t (gName i))) (ht : ∀ σ H Q, TD X.K ma σ H Q → t σ H Q) : PSd X st (mset i ma) := h.imp fun D σ H ⟨F0, H0, F, ρ, o, rl, e, ok⟩ => by
  unfold mset at e
  cases h1 : ma ρ with
  | none => rw [h1] at e; cases e
  | some d =>
    rw [h1] at e; cases e
    exact ht _ _ _ ⟨F0, H0, F, ρ, d, rl, h1, fun v F1 H1 x1 r1 => ok F1 H1 _ ((rl.go x1).set r1) x1.ff⟩
theorem asg_f {t : TE} {i : Nat} {mf : ML} (h : PS X st (tAsg t (gName i))) (ht : ∀ σ H Q, TF X.K mf σ H Q → t σ H Q) : PSd X st (msetF i mf) := h.imp fun D σ H ⟨F0, H0, F, ρ, o, rl, e, ok⟩ => by
  unfold msetF at e
  cases h1 : mf ρ with
  | none => rw [h1] at e; cases e
  | some ds =>
    rw [h1] at e; cases e
    refine ht _ _ _ ⟨F0, H0, F, ρ, ds, rl, h1, fun p xs F1 H1 x1 hp hF hH r1 => ok F1 H1 _ ?_ x1.ff⟩
    refine (rl.go x1).setOwn hF hH r1 (rl.ext.hh.free hp) (fun j es hj e1 e2 => ?_) fun j q es e1 z => ?_
    · obtain ⟨q, ys, a1, a2, a3, _⟩ := rl.own j es e1
      rw [a1] at e2; cases e2
      rw [hp] at a3; cases a3
    · obtain ⟨_, _, _, ys, a3, _⟩ := rl.ob j q es e1
      rw [z, hp] at a3; cases a3
theorem psd_set {i : Nat} {x : Str} {pos' : Pos} (hN : X.N.Nodup) (hi : X.N[i]? = some x) (hx : Loc X.env.scope x) (he : PD X e ma) (hs : swapsWith e (some (.Name x pos')) pos.line X.env = pure false := by rfl) (hf : X.fn x = true ∨ X.env.scope.names.lookup x = some .local := by first | exact .inl rfl | exact .inr rfl | assumption) :
    PSd X (.Assign [.Name x pos'] e pos) (mset i ma) := asg_d (ps_set hN hi hx he hs hf) fun _ _ _ h => h
theorem psd_setF {i : Nat} {x : Str} {pos' : Pos} {mf : ML} (hN : X.N.Nodup) (hi : X.N[i]? = some x) (hx : Loc X.env.scope x) (he : PF X e mf) (hs : swapsWith e (some (.Name x pos')) pos.line X.env = pure false := by rfl) (hf : X.fn x = true ∨ X.env.scope.names.lookup x = some .local := by first | exact .inl rfl | exact .inr rfl | assumption) :
    PSd X (.Assign [.Name x pos'] e pos) (msetF i mf) := asg_f (ps_set hN hi hx he hs hf) fun _ _ _ h => h
def maug (i : Nat) (x : ME) : MS := fun ρ => match ρ[i]? with | some (some (.sh (.int k))) => (x ρ).bind (fun d => match d with | .int j => some (.nx (ρ.set i (some (.sh (.int (k + j)))))) | _ => none) | _ => none
def mexpr (x : ME) : MS := fun ρ => (x ρ).map fun _ => .nx ρ
theorem psd_expr (he : PD X e ma) (hs : swapsWith e none pos.line X.env = pure false := by rfl) : PSd X (.Expr e pos) (mexpr ma) := (ps_expr he hs).imp fun D σ H ⟨F0, H0, F, ρ, o, rl, e, ok⟩ => by
  unfold mexpr at e
  cases h1 : ma ρ with
  | none => rw [h1] at e; cases e
  | some d =>
    rw [h1] at e; cases e
    exact ⟨F0, H0, F, ρ, d, rl, h1, fun v F1 H1 x1 r1 => ok F1 H1 _ (rl.go x1) x1.ff⟩
def mret (x : ME) : MS := fun ρ => (x ρ).map .rt
def mretF (x : ML) : MS := fun ρ => (x ρ).map .rf
def mretO (i : Nat) : MS := fun ρ => match ρ[i]? with | some (some (.own ds)) => some (.rf ds) | some (some (.sh d)) => some (.rt d) | _ => none
theorem psd_ret (he : PD X e ma) : PSd X (.Return (some e) pos) (mret ma) := (ps_ret he).imp fun D σ H ⟨F0, H0, F, ρ, o, rl, e, ok⟩ => by
  unfold mret at e
  cases h1 : ma ρ with
  | none => rw [h1] at e; cases e
  | some d =>
    rw [h1] at e; cases e
    exact ⟨F0, H0, F, ρ, d, rl, h1, fun v F1 H1 x1 r1 => ok v F1 H1 (rl.ext.trans x1) r1⟩
theorem psd_retF {mf : ML} (he : PF X e mf) : PSd X (.Return (some e) pos) (mretF mf) := (ps_ret he).imp fun D σ H ⟨F0, H0, F, ρ, o, rl, e, ok⟩ => by
  unfold mretF at e
  cases h1 : mf ρ with
  | none => rw [h1] at e; cases e
  | some ds =>
    rw [h1] at e; cases e
    exact ⟨F0, H0, F, ρ, ds, rl, h1, fun p xs F1 H1 x1 hp hF hH r1 => ok p xs F1 H1 (rl.ext.trans x1) (rl.ext.hh.free hp) hF hH r1⟩
theorem psd_retO (i : Nat) {x : Str} {pos' : Pos} (h : PE X (.Name x pos') (tVar i)) : PSd X (.Return (some (.Name x pos')) pos) (mretO i) := (ps_ret h).imp fun D σ H ⟨F0, H0, F, ρ, o, rl, e, ok⟩ => by
  unfold mretO at e
  split at e
  · rename_i ds h1
    cases e
    obtain ⟨p, xs, e1, e2, e3, e4, e5⟩ := rl.own i _ h1
    exact ⟨_, e1, ok p xs F H rl.ext e5 e2 e3 e4⟩
  · rename_i d h1
    cases e
    obtain ⟨v, e1, e2⟩ := rl.sh i _ h1
    exact ⟨_, e1, ok v F H rl.ext e2⟩
  · cases e
def mretN : MS := fun _ => some (.rt .non)
def mapp (i : Nat) (x : ME) : MS := fun ρ => match ρ[i]? with | some (some (.own ds)) => (x ρ).bind fun d => if ds.length < sizeLine then some (.nx (ρ.set i (some (.own (ds ++ [d]))))) else none | _ => none
theorem psd_append {i : Nat} {x : Str} {e : Expr} {px apos cpos : Pos} (hv : PE X (.Name x px) (tVar i)) (he : PD X e ma)
    (hE : ∀ t, PA X [e] t → PE X (.Call (.Attribute (.Name x px) "append" apos) [e] [] cpos) (tBM X.K "list" rAppend (tVar i) t)) (hA : PAs X [e] (acons ma anil)) (hs : swapsWith (.Call (.Attribute (.Name x px) "append" apos) [e] [] cpos) none pos.line X.env = pure false := by rfl) :
    PSd X (.Expr (.Call (.Attribute (.Name x px) "append" apos) [e] [] cpos) pos) (mapp i ma) := (ps_expr (hE _ hA) hs).imp fun D σ H ⟨F0, H0, F, ρ, o, rl, e, ok⟩ => by
  unfold mapp at e
  split at e
  · rename_i ds h1
    obtain ⟨p, xs, e1, e2, e3, e4, e5⟩ := rl.own i _ h1
    cases h2 : ma ρ with
    | none => rw [h2] at e; cases e
    | some d =>
      rw [h2] at e
      have e : (if ds.length < sizeLine then some (Out.nx (ρ.set i (some (.own (ds ++ [d]))))) else none) = some o := e
      split at e
      · rename_i hz
        cases e
        refine ⟨_, e1, .inl ⟨rfl, _, SqL.of e3⟩, F0, H0, F, ρ, [d], rl, by unfold acons anil; rw [h2]; rfl, fun vs F1 H1 x1 r1 => ?_⟩
        cases r1 with
        | cons r rr =>
          cases rr
          have hp : H1 p = some (.lst xs) := x1.hh _ _ e3
          exact ⟨p, xs, _, rfl, rfl, hp, by rw [e4.length]; exact hz, ok F1 _ σ ((rl.go x1).write h1 e1 ((e4.mono x1.ff).append (.cons r .nil))) x1.ff⟩
      · cases e
  · cases e
def msetix (i : Nat) (ix v : ME) : MS := fun ρ => (v ρ).bind fun d => match ρ[i]? with
  | some (some (.own ds)) => (ix ρ).bind (fun x => match x with | .int k => (ixN ds.length k).map fun j => .nx (ρ.set i (some (.own (ds.set j d)))) | _ => none)
  | some (some (.ob p ds)) => (ix ρ).bind (fun x => match x with | .int k => (ixN ds.length k).map fun j => .nx (ρ.set i (some (.ob p (ds.set j d)))) | _ => none)
  | _ => none
theorem psd_setix {i : Nat} (hE : PS X st (tAsg (TD X.K mb) (gSub (tVar i) (TD X.K ma) rSetL))) : PSd X st (msetix i ma mb) := hE.imp fun D σ H ⟨F0, H0, F, ρ, o, rl, e, ok⟩ => by
  unfold msetix at e
  cases h1 : mb ρ with
  | none => rw [h1] at e; cases e
  | some d =>
    rw [h1] at e
    refine ⟨F0, H0, F, ρ, d, rl, h1, fun y F1 H1 x1 r1 => ?_⟩
    dsimp only [Option.bind] at e
    split at e
    · rename_i ds h2
      obtain ⟨p, xs, e1, e2, e3, e4, e5⟩ := (rl.go x1).own i _ h2
      cases h3 : ma ρ with
      | none => rw [h3] at e; cases e
      | some k' =>
        rw [h3] at e
        refine ⟨_, e1, F0, H0, F1, ρ, k', rl.go x1, h3, fun z F2 H2 x2 r2 => ?_⟩
        cases r2 <;> first | (cases e; done) | skip
        rename_i k
        have e : (ixN ds.length k).map (fun j => Out.nx (ρ.set i (some (.own (ds.set j d))))) = some o := e
        cases h4 : ixN ds.length k with
        | none => rw [h4] at e; cases e
        | some j =>
          rw [h4] at e; cases e
          have rl2 := (rl.go x1).go x2
          refine ⟨p, xs, k, j, rfl, rfl, x2.hh _ _ e3, by rw [e4.length]; exact h4, ok F2 _ σ (rl2.write h2 e1 (Reps.set (r1.mono x2.ff) j (e4.mono x2.ff))) (x1.ff.trans x2.ff)⟩
    · rename_i p ds h2
      obtain ⟨e1, e2, e5, xs, e3, e4⟩ := (rl.go x1).ob i p _ h2
      cases h3 : ma ρ with
      | none => rw [h3] at e; cases e
      | some k' =>
        rw [h3] at e
        refine ⟨_, e1, F0, H0, F1, ρ, k', rl.go x1, h3, fun z F2 H2 x2 r2 => ?_⟩
        cases r2 <;> first | (cases e; done) | skip
        rename_i k
        have e : (ixN ds.length k).map (fun j => Out.nx (ρ.set i (some (.ob p (ds.set j d))))) = some o := e
        cases h4 : ixN ds.length k with
        | none => rw [h4] at e; cases e
        | some j =>
          rw [h4] at e; cases e
          have rl2 := (rl.go x1).go x2
          refine ⟨p, xs, k, j, rfl, rfl, x2.hh _ _ e3, by rw [e4.length]; exact h4, ok F2 _ σ (rl2.writeB h2 (Reps.set (r1.mono x2.ff) j (e4.mono x2.ff))) (x1.ff.trans x2.ff)⟩
    · cases e
def mfreeze (i : Nat) (m : MS) : MS := fun ρ => match ρ[i]? with | some (some (.own ds)) => m (ρ.set i (some (.sh (.lst ds)))) | _ => m ρ
theorem pssd_freeze (i : Nat) {sts : List Stmt} {m : MS} (h : PSsd X sts m) : PSsd X sts (mfreeze i m) := h.imp fun D σ H ⟨F0, H0, F, ρ, o, rl, e, ok⟩ => by
  unfold mfreeze at e
  split at e
  · rename_i ds h1
    obtain ⟨F', rl', sf⟩ := rl.freeze h1
    exact ⟨F0, H0, F', _, o, rl', e, ok.mono sf⟩
  · exact ⟨F0, H0, F, ρ, o, rl, e, ok⟩

inductive Tg where
  | nm (i : Nat) | tp (is : List Nat) | nt (i : Nat) (is : List Nat)
def setAll : List Nat → List D → Ro → Option Ro
  | [], [], ρ => some ρ
  | i :: is, d :: ds, ρ => setAll is ds (ρ.set i (some (.sh d)))
  | _, _, _ => none
def tgD : Tg → D → Ro → Option Ro
  | .nm i, d, ρ => some (ρ.set i (some (.sh d)))
  | .tp is, .tup ds, ρ => setAll is ds ρ
  | .nt i is, .tup [d, .tup ds], ρ => setAll is ds (ρ.set i (some (.sh d)))
  | _, _, _ => none
def TGd (K : PySem.W.Frag) (g : Tg) : TG := fun v σ H Q => ∃ F0 H0 F ρ d ρ', Rl K F0 H0 F H σ ρ ∧ Rep K F v d ∧ tgD g d ρ = some ρ' ∧ ∀ F' H' σ', Rl K F0 H0 F' H' σ' ρ' → Ext F H F' H' → Q σ' H'
def PGd (X : Cx) (tg : Expr) (g : Tg) : Prop := PG X tg (TGd X.K g)
theorem PG.imp {tg : Expr} {t t' : TG} (h : PG X tg t) (i : ∀ v σ H Q, t' v σ H Q → t v σ H Q) : PG X tg t' := fun pins s σ H v u Q I r q => h pins s σ H v u Q I r (i v σ H Q q)
theorem pgd_name {i : Nat} {x : Str} {pos : Pos} (h : PG X (.Name x pos) (gName i)) : PGd X (.Name x pos) (.nm i) := PG.imp h fun v σ H Q ⟨F0, H0, F, ρ, d, ρ', rl, r, e, q⟩ => by
  cases e; exact q F H _ (rl.set r) (.refl rl.fh)
def gAll : List Nat → TGs
  | [] => gNil
  | i :: is => gCons (gName i) (gAll is)
theorem gAll_ok {K : PySem.W.Frag} {F0 H0 F H : Hp} {Q : St → Hp → Prop} : ∀ (is : List Nat) (vs : List V) (ds : List D) (σ : St) (ρ ρ' : Ro), Rl K F0 H0 F H σ ρ → Reps K F vs ds → setAll is ds ρ = some ρ' → (∀ σ', Rl K F0 H0 F H σ' ρ' → Q σ' H) → gAll is vs σ H Q
  | [], _, [], σ, ρ, ρ', rl, r, e, q => by cases r; cases e; exact ⟨rfl, q σ rl⟩
  | [], _, _ :: _, _, _, _, _, _, e, _ => by cases e
  | _ :: _, _, [], _, _, _, _, _, e, _ => by cases e
  | i :: is, _, d :: ds, σ, ρ, ρ', rl, r, e, q => by
    cases r with
    | cons r rr => exact ⟨_, _, rfl, gAll_ok is _ ds _ _ ρ' (rl.set r) rr e q⟩
theorem setAll_len : ∀ (is : List Nat) (ds : List D) (ρ ρ' : Ro), setAll is ds ρ = some ρ' → ds.length = is.length
  | [], [], _, _, _ => rfl
  | [], _ :: _, _, _, e => by cases e
  | _ :: _, [], _, _, e => by cases e
  | _ :: is, _ :: ds, ρ, ρ', e => congrArg (· + 1) (setAll_len is ds _ ρ' e)
theorem pgd_tup {es : List Expr} {k n : Nat} {is : List Nat} {pos : Pos} (h : PG X (.Tuple es k pos) (gTup X.K n (gAll is))) (hn : is.length = n := by rfl) : PGd X (.Tuple es k pos) (.tp is) := PG.imp h fun v σ H Q ⟨F0, H0, F, ρ, d, ρ', rl, r, e, q⟩ => by
  cases r with
  | tup s t => exact ⟨_, _, rfl, rl.fh.seqT s, by rw [t.length, setAll_len _ _ _ _ e, hn], gAll_ok is _ _ σ ρ ρ' rl t e fun σ' rl' => q F H σ' rl' (.refl rl.fh)⟩
  | _ => cases e
def masg (g : Tg) (x : ME) : MS := fun ρ => (x ρ).bind fun d => (tgD g d ρ).map .nx
theorem psd_asg {g : Tg} (h : PS X st (tAsg (TD X.K ma) (TGd X.K g))) : PSd X st (masg g ma) := h.imp fun D σ H ⟨F0, H0, F, ρ, o, rl, e, ok⟩ => by
  unfold masg at e
  cases h1 : ma ρ with
  | none => rw [h1] at e; cases e
  | some d =>
    rw [h1] at e
    have e : (tgD g d ρ).map Out.nx = some o := e
    cases h2 : tgD g d ρ with
    | none => rw [h2] at e; cases e
    | some ρ' =>
      rw [h2] at e; cases e
      exact ⟨F0, H0, F, ρ, d, rl, h1, fun v F1 H1 x1 r1 => ⟨F0, H0, F1, ρ, d, ρ', rl.go x1, r1, h2, fun F' H' σ' rl' x2 => ok F' H' σ' rl' (x1.ff.trans x2.ff)⟩⟩

structure ItD (K : PySem.W.Frag) (F : Hp) (J : It) (its : List D) : Prop where
  go : ∀ (i : Nat) F1 H1, Same F F1 → Same F1 H1 → i < its.length → J.go i H1
  yld : ∀ (i : Nat) F1 H1 x H2 d, Same F F1 → Same F1 H1 → its[i]? = some d → J.yld i H1 x H2 → ∃ F2, Ext F1 H1 F2 H2 ∧ Rep K F2 x d
  stop : ∀ F1 H1, Same F F1 → Same F1 H1 → J.stop its.length H1
def TId (K : PySem.W.Frag) (mi : ML) : TI := fun σ H R => ∃ F0 H0 F ρ its, Rl K F0 H0 F H σ ρ ∧ mi ρ = some its ∧ ∀ J F' H', Ext F H F' H' → ItD K F' J its → R J H'
def PId (X : Cx) (tg iter : Expr) (mi : ML) : Prop := PI X tg iter (TId X.K mi)
theorem PI.imp {tg it : Expr} {t t' : TI} (h : PI X tg it t) (i : ∀ σ H R, t' σ H R → t σ H R) : PI X tg it t' := fun pins s σ H R I q => h pins s σ H R I (i σ H R q)
theorem itd_list {K : PySem.W.Frag} {F : Hp} {p : Addr} {xs : List V} {ds : List D} (s : SqL K F p xs) (r : Reps K F xs ds) : ItD K F (Itl K p) ds where
  go := fun i F1 H1 a b hi => by
    obtain ⟨v, e, _⟩ := r.get (List.getElem?_eq_getElem hi)
    exact ⟨xs, v, b.seq (a.seq s), e⟩
  yld := fun i F1 H1 x H2 d a b e y => by
    obtain ⟨rfl, y⟩ := y
    obtain ⟨v, e1, e2⟩ := r.get e
    have := y xs (b.seq (a.seq s))
    rw [e1] at this; cases this
    exact ⟨F1, .refl b, e2.mono a⟩
  stop := fun F1 H1 a b => ⟨xs, b.seq (a.seq s), by rw [r.length]; exact Nat.le_refl _⟩
theorem pid_seq {tg : Expr} (hd : PD X e ma) : PId X tg e (aslst ma) := PI.imp (pi_list hd) fun σ H R ⟨F0, H0, F, ρ, its, rl, e, q⟩ => by
  unfold aslst at e
  split at e
  · rename_i ds h1
    cases e
    refine ⟨F0, H0, F, ρ, _, rl, h1, fun v F1 H1 x1 r1 => ?_⟩
    cases r1 with
    | lst s t => exact ⟨_, rfl, ⟨_, x1.fh.seq s⟩, q _ F1 H1 x1 (itd_list s t)⟩
  · cases e
def rangeD (lo : Int) (n : Nat) : List D := (List.range n).map fun (i : Nat) => D.int (lo + (i : Int))
theorem rangeD_length (lo : Int) (n : Nat) : (rangeD lo n).length = n := by unfold rangeD; simp
theorem itd_range {K : PySem.W.Frag} {F : Hp} {lo : Int} {n : Nat} : ItD K F (Itr lo n) (rangeD lo n) where
  go := fun i F1 H1 a b hi => by rw [rangeD_length] at hi; exact hi
  yld := fun i F1 H1 x H2 d a b e y => by
    obtain ⟨rfl, rfl⟩ := y
    unfold rangeD at e
    rw [List.getElem?_map] at e
    have hi : i < n := by
      rcases Nat.lt_or_ge i n with h | h
      · exact h
      · rw [List.getElem?_eq_none (by simpa using h)] at e; cases e
    rw [List.getElem?_range hi] at e
    cases e
    exact ⟨F1, .refl b, .int _⟩
  stop := fun F1 H1 a b => by rw [rangeD_length]; exact Nat.le_refl n
def okR (j : Int) : Bool := decide (-(2 ^ 62) ≤ j) && decide (j < 2 ^ 62)
def rng1 : List D → Option (List D)
  | [.int j] => if okR j = true then some (rangeD 0 j.toNat) else none
  | _ => none
def rng2 : List D → Option (List D)
  | [.int i, .int j] => if (okR i && okR j) = true then some (rangeD i (j - i).toNat) else none
  | _ => none
@[irreducible] def mlist (f : List D → Option (List D)) (m : ML) : ML := fun ρ => (m ρ).bind f
theorem mlist_some {f : List D → Option (List D)} {m : ML} {ρ : Ro} {gs : List D} (h : mlist f m ρ = some gs) : ∃ ds, m ρ = some ds ∧ f ds = some gs := by
  unfold mlist at h
  cases h1 : m ρ with
  | none => rw [h1] at h; cases h
  | some ds => rw [h1] at h; exact ⟨ds, rfl, h⟩
theorem pid_range1 {tg a : Expr} {m : ML} {p pos : Pos} (hg : Gl X "range") (hm : X.mg "range" = none) (ha : PAs X [a] m) (hs : starEach [a] X.env = [(false, eval a X.env)] := by rfl) : PId X tg (.Call (.Name "range" p) [a] [] pos) (mlist rng1 m) := PI.imp (pi_range1 hg hm ha hs) fun σ H R ⟨F0, H0, F, ρ, its, rl, e, q⟩ => by
  obtain ⟨ds, h1, h2⟩ := mlist_some e
  refine ⟨F0, H0, F, ρ, ds, rl, h1, fun vs F1 H1 x1 r1 => ?_⟩
  unfold rng1 at h2
  split at h2
  · rename_i j
    split at h2
    · rename_i hk
      cases h2
      unfold okR at hk
      simp only [Bool.and_eq_true, decide_eq_true_eq] at hk
      cases r1 with
      | cons r rr =>
        cases rr; cases r
        exact ⟨j, rfl, hk.1, hk.2, q _ F1 H1 x1 itd_range⟩
    · cases h2
  · cases h2
theorem pid_range2 {tg a b : Expr} {m : ML} {p pos : Pos} (hg : Gl X "range") (hm : X.mg "range" = none) (ha : PAs X [a, b] m) (hs : starEach [a, b] X.env = [(false, eval a X.env), (false, eval b X.env)] := by rfl) (hs2 : starEach [b] X.env = [(false, eval b X.env)] := by rfl) : PId X tg (.Call (.Name "range" p) [a, b] [] pos) (mlist rng2 m) := PI.imp (pi_range2 hg hm ha hs hs2) fun σ H R ⟨F0, H0, F, ρ, its, rl, e, q⟩ => by
  obtain ⟨ds, h1, h2⟩ := mlist_some e
  refine ⟨F0, H0, F, ρ, ds, rl, h1, fun vs F1 H1 x1 r1 => ?_⟩
  unfold rng2 at h2
  split at h2
  · rename_i i j
    split at h2
    · rename_i hk
      cases h2
      unfold okR at hk
      simp only [Bool.and_eq_true, decide_eq_true_eq] at hk
      cases r1 with
      | cons r rr =>
        cases rr with
        | cons r2 rr =>
          cases rr; cases r; cases r2
          exact ⟨i, j, rfl, ⟨hk.1.1, hk.1.2, hk.2.1, hk.2.2⟩, q _ F1 H1 x1 itd_range⟩
    · cases h2
  · cases h2
def zip2 : List D → Option (List D)
  | [.lst ds, .lst es] => some (List.zipWith (fun d e => .tup [d, e]) ds es)
  | _ => none
theorem itd_zip2 {K : PySem.W.Frag} {F : Hp} {p q : Addr} {xs ys : List V} {ds es : List D} (s : SqL K F p xs) (r : Reps K F xs ds) (s' : SqL K F q ys) (r' : Reps K F ys es) : ItD K F (Itz2 K p q) (List.zipWith (fun d e => D.tup [d, e]) ds es) where
  go := fun i F1 H1 a b hi => by
    rw [List.length_zipWith] at hi
    obtain ⟨v, e, _⟩ := r.get (List.getElem?_eq_getElem (show i < ds.length by omega))
    obtain ⟨w, e', _⟩ := r'.get (List.getElem?_eq_getElem (show i < es.length by omega))
    exact ⟨xs, ys, v, w, b.seq (a.seq s), b.seq (a.seq s'), e, e'⟩
  yld := fun i F1 H1 x H2 d a b e y => by
    obtain ⟨t, u, v, rfl, ht, rfl, y1, y2⟩ := y
    have y1 := y1 xs (b.seq (a.seq s))
    have y2 := y2 ys (b.seq (a.seq s'))
    obtain ⟨d1, e1, r1⟩ := r.get' y1
    obtain ⟨d2, e2, r2⟩ := r'.get' y2
    rw [List.getElem?_zipWith, e1, e2] at e
    cases e
    refine ⟨upd F1 t (.tup [u, v]), Ext.laid b ht, .tup (SqT.of upd_same) ?_⟩
    have mm : Same F (upd F1 t (.tup [u, v])) := a.trans ((Same.refl F1).put (b.free ht))
    exact .cons (r1.mono mm) (.cons (r2.mono mm) .nil)
  stop := fun F1 H1 a b => ⟨xs, ys, b.seq (a.seq s), b.seq (a.seq s'), by rw [r.length, r'.length, List.length_zipWith]; omega⟩
theorem pid_zip2 {es : List Expr} {tk : Nat} {tp : Pos} {a b : Expr} {m : ML} {p pos : Pos} (hg : Gl X "zip") (hm : X.mg "zip" = none) (ha : PAs X [a, b] m) (hs : starEach [a, b] X.env = [(false, eval a X.env), (false, eval b X.env)] := by rfl) (hs2 : starEach [b] X.env = [(false, eval b X.env)] := by rfl) : PId X (.Tuple es tk tp) (.Call (.Name "zip" p) [a, b] [] pos) (mlist zip2 m) := PI.imp (pi_zip2 hg hm ha hs hs2) fun σ H R ⟨F0, H0, F, ρ, its, rl, e, q⟩ => by
  obtain ⟨ds, h1, h2⟩ := mlist_some e
  refine ⟨F0, H0, F, ρ, ds, rl, h1, fun vs F1 H1 x1 r1 => ?_⟩
  unfold zip2 at h2
  split at h2
  · cases h2
    cases r1 with
    | cons r rr =>
      cases rr with
      | cons r2 rr =>
        cases rr
        cases r with
        | lst s t =>
          cases r2 with
          | lst s2 t2 => exact ⟨_, _, _, _, rfl, x1.fh.seq s, x1.fh.seq s2, q _ F1 H1 x1 (itd_zip2 s t s2 t2)⟩
  · cases h2
def zipW3 : List D → List D → List D → List D
  | d :: ds, e :: es, f :: fs => .tup [d, e, f] :: zipW3 ds es fs
  | _, _, _ => []
def zip3 : List D → Option (List D)
  | [.lst ds, .lst es, .lst fs] => some (zipW3 ds es fs)
  | _ => none
def enumL : Nat → List D → List D
  | _, [] => []
  | i, d :: ds => .tup [.int i, d] :: enumL (i + 1) ds
def enum1 : List D → Option (List D)
  | [.lst ds] => some (enumL 0 ds)
  | _ => none
end
end L2

set_option Elab.async false
set_option linter.all false
set_option maxRecDepth 100000
namespace L2
open PySem PySem.Spec PyProof.Rows

def forD (g : Tg) (body : MS) : List D → MS
  | [], ρ => some (.nx ρ)
  | d :: ds, ρ => match tgD g d ρ with
    | some ρ1 => match body ρ1 with
      | some (.nx ρ2) => forD g body ds ρ2
      | some (.ct ρ2) => forD g body ds ρ2
      | some (.bk ρ2) => some (.nx ρ2)
      | o => o
    | none => none
def mfor (mi : ML) (g : Tg) (body : MS) : MS := fun ρ => (mi ρ).bind fun its => forD g body its ρ
theorem drop_get {α : Type} {xs : List α} {i : Nat} {d : α} (h : xs[i]? = some d) : xs.drop i = d :: xs.drop (i + 1) := by
  obtain ⟨hl, e⟩ := List.getElem?_eq_some_iff.mp h
  rw [List.drop_eq_getElem_cons hl, e]
section
variable {X : Cx} {a b c e : Expr} {ma mb : ME} {pos : Pos} {st : Stmt} {rest : List Stmt}
theorem psd_for {tg iter : Expr} {body : List Stmt} {mi : ML} {g : Tg} {mb : MS} (hp : PassesOwn (model X.prog X.w) X.A X.env X.xe) (hc : X.calm = true) (hi : PId X tg iter mi) (hg : PGd X tg g) (hb : PSsd X body mb)
    (hs : ∀ x, foldedSetIterable iter X.env x = pure x := by intro _; rfl) : PSd X (.For tg iter body [] pos) (mfor mi g mb) := (ps_for hp hc hi hg hb hs).imp fun Dn σ H ⟨F0, H0, F, ρ, o, rl, e, ok⟩ => by
  unfold mfor at e
  cases h1 : mi ρ with
  | none => rw [h1] at e; cases e
  | some its =>
    rw [h1] at e
    have e : forD g mb its ρ = some o := e
    refine ⟨F0, H0, F, ρ, its, rl, h1, fun J F1 H1 x1 I => ?_⟩
    refine ⟨fun i m σ' H' => ∃ F' ρ', Rl X.K F0 H0 F' H' σ' ρ' ∧ Same F1 F' ∧ i ≤ its.length ∧ m = its.length - i ∧ forD g mb (its.drop i) ρ' = some o, ⟨_, F1, ρ, rl.go x1, Same.refl _, Nat.zero_le _, rfl, e⟩, ?_⟩
    rintro i m σ' H' ⟨F', ρ', rl', sf, hi', rfl, e'⟩
    by_cases hlt : i < its.length
    · right
      have hd := List.getElem?_eq_getElem hlt
      refine ⟨I.go i F' H' sf rl'.fh hlt, fun σ2 H2 => ∃ F2 ρ2, Rl X.K F0 H0 F2 H2 σ2 ρ2 ∧ Same F1 F2 ∧ forD g mb (its.drop (i + 1)) ρ2 = some o, ?_, fun x H2 y => ?_⟩
      · rintro σ2 H2 ⟨F2, ρ2, rl2, sf2, e2⟩
        exact ⟨its.length - (i + 1), by omega, F2, ρ2, rl2, sf2, hlt, rfl, e2⟩
      · obtain ⟨F2, x2, r2⟩ := I.yld i F' H' x H2 _ sf rl'.fh hd y
        rw [drop_get hd] at e'
        unfold forD at e'
        cases h2 : tgD g its[i] ρ' with
        | none => simp only [h2] at e'; cases e'
        | some ρ1 =>
          simp only [h2] at e'
          refine ⟨F0, H0, F2, ρ', _, ρ1, rl'.go x2, r2, h2, fun F3 H3 σ3 rl3 x3 => ?_⟩
          have s3 : Same F1 F3 := (sf.trans x2.ff).trans x3.ff
          cases h3 : mb ρ1 with
          | none => simp only [h3] at e'; cases e'
          | some o1 =>
            simp only [h3] at e'
            refine ⟨F0, H0, F3, ρ1, o1, rl3, h3, ?_⟩
            cases o1 with
            | nx ρ2 => exact fun F4 H4 σ4 rl4 s4 => ⟨F4, ρ2, rl4, s3.trans s4, e'⟩
            | ct ρ2 => exact fun F4 H4 σ4 rl4 s4 => ⟨F4, ρ2, rl4, s3.trans s4, e'⟩
            | bk ρ2 =>
              cases e'
              exact fun F4 H4 σ4 rl4 s4 => ok F4 H4 σ4 rl4 ((x1.ff.trans s3).trans s4)
            | rt d => cases e'; exact ok
            | rf d => cases e'; exact ok
            | rp d ds => cases e'; exact ok
            | rg d p r => cases e'; exact ok
            | rgf d p r => cases e'; exact ok
    · left
      have hieq : i = its.length := by omega
      subst hieq
      rw [List.drop_length] at e'
      have e' : some (Out.nx ρ') = some o := e'
      cases e'
      exact ⟨I.stop F' H' sf rl'.fh, ok F' H' σ' rl' (x1.ff.trans sf)⟩
end
end L2

set_option Elab.async false
set_option linter.all false
set_option maxRecDepth 100000
namespace L2
open PySem PySem.Spec PyProof.Rows

def blkRo (src : List (Option Nat)) (ρ : Ro) : Ro := src.map fun o => o.bind fun i => match ρ[i]? with | some (some (.sh d)) => some (.sh d) | _ => none
def compD (g : Tg) (c : MB) (elt : ME) : List D → Ro → List D → Option (List D)
  | [], _, acc => some acc
  | d :: ds, ρ, acc => match tgD g d ρ with
    | some ρ1 => match c ρ1 with
      | some true => match elt ρ1 with
        | some x => if acc.length < sizeLine then compD g c elt ds ρ1 (acc ++ [x]) else none
        | none => none
      | some false => compD g c elt ds ρ1 acc
      | none => none
    | none => none
@[irreducible] def mcomp (src : List (Option Nat)) (mi : ML) (g : Tg) (c : MB) (elt : ME) : ML := fun ρ => (mi ρ).bind fun its => compD g c elt its (blkRo src ρ) []
def NoOwn (ρ : Ro) : Prop := ∀ (i : Nat) ds, ρ[i]? ≠ some (some (.own ds)) ∧ ∀ p, ρ[i]? ≠ some (some (.ob p ds))
theorem NoOwn.set {ρ : Ro} (h : NoOwn ρ) (i : Nat) (d : D) : NoOwn (ρ.set i (some (.sh d))) := fun j ds => ⟨fun e => by
  by_cases hj : i = j
  · subst hj
    have hl : i < ρ.length := by
      rcases Nat.lt_or_ge i ρ.length with z | z
      · exact z
      · rw [List.getElem?_eq_none (by simpa using z)] at e; cases e
    rw [List.getElem?_set_self hl] at e; cases e
  · rw [List.getElem?_set_ne hj] at e; exact (h j ds).1 e, fun p e => (h j ds).2 p (set_ob e).2⟩
theorem NoOwn.all : ∀ (is : List Nat) (ds : List D) {ρ ρ' : Ro}, NoOwn ρ → setAll is ds ρ = some ρ' → NoOwn ρ'
  | [], [], ρ, ρ', h, e => by cases e; exact h
  | [], _ :: _, _, _, _, e => by cases e
  | _ :: _, [], _, _, _, e => by cases e
  | i :: is, d :: ds, ρ, ρ', h, e => NoOwn.all is ds (h.set i d) e
theorem NoOwn.tg {g : Tg} {d : D} {ρ ρ' : Ro} (h : NoOwn ρ) (e : tgD g d ρ = some ρ') : NoOwn ρ' := by
  cases g with
  | nm i => cases e; exact h.set i d
  | tp is => cases d <;> first | (cases e; done) | exact NoOwn.all is _ h e
  | nt i is =>
    cases d with
    | tup ds =>
      match ds, e with
      | [d, .tup ds], e => exact NoOwn.all is _ (h.set i d) e
    | _ => cases e
theorem Rl.blk {K : PySem.W.Frag} {F0 H0 F H : Hp} {σ : St} {ρ : Ro} (r : Rl K F0 H0 F H σ ρ) (src : List (Option Nat)) : Rl K F H F H (blk0 src σ) (blkRo src ρ) ∧ NoOwn (blkRo src ρ) := by
  have no1 : ∀ (i : Nat) x, (blkRo src ρ)[i]? = some (some x) → ∃ d, x = S.sh d := fun i x e => by
    unfold blkRo at e
    rw [List.getElem?_map] at e
    cases h : src[i]? with
    | none => rw [h] at e; cases e
    | some o =>
      rw [h] at e
      cases o with
      | none => cases e
      | some k =>
        simp only [Option.map_some, Option.bind_some] at e
        split at e
        · cases e; exact ⟨_, rfl⟩
        · cases e
  have no : NoOwn (blkRo src ρ) := fun i ds => ⟨fun e => (by obtain ⟨d, z⟩ := no1 i _ e; cases z), fun p e => (by obtain ⟨d, z⟩ := no1 i _ e; cases z)⟩
  refine ⟨⟨.refl r.fh, by unfold blk0 blkRo; simp, fun i d e => ?_, fun i ds e => absurd e (no i ds).1, fun i j p ds es _ e => absurd e (no i ds).1, fun i p ds e => absurd e ((no i ds).2 p), fun i j p ds es e => absurd e ((no i ds).2 p), fun i j p q ds es e => absurd e ((no i ds).2 p)⟩, no⟩
  unfold blkRo at e
  unfold blk0
  rw [List.getElem?_map] at e ⊢
  cases h : src[i]? with
  | none => rw [h] at e; cases e
  | some o =>
    rw [h] at e
    cases o with
    | none => cases e
    | some k =>
      simp only [Option.map_some, Option.bind_some] at e ⊢
      split at e
      · rename_i d' h'
        cases e
        obtain ⟨v, e1, e2⟩ := r.sh k _ h'
        exact ⟨v, by rw [e1]; rfl, e2⟩
      · cases e
theorem Rl.other {K : PySem.W.Frag} {F0 H0 F H : Hp} {σ : St} {ρ : Ro} (r : Rl K F0 H0 F H σ ρ) (no : NoOwn ρ) {p : Addr} {o : HO} (h0 : H0 p = none) (hF : F p = none) : Rl K F0 H0 F (upd H p o) σ ρ :=
  ⟨⟨r.ext.ff, r.ext.hh.put h0, r.ext.fh.put hF, r.ext.new, r.ext.nf⟩, r.len, r.sh, fun i ds e => absurd e (no i ds).1, r.inj, fun i p ds e => absurd e ((no i ds).2 p), r.obn, r.ob1⟩
section
variable {X : Cx} {a b c e : Expr} {ma mb : ME} {pos : Pos} {st : Stmt} {rest : List Stmt}
def PTsd (X : Cx) (ifs : List Expr) (c : MB) : Prop := PTs X ifs (TC X.K c)
def cyes : MB := fun _ => some true
theorem ptsd_nil : PTsd X [] cyes := fun pins s σ H Q I ⟨F0, H0, F, ρ, b, rl, e, q⟩ => by
  cases e
  exact pts_nil pins s σ H Q I (q F H (.refl rl.fh))
theorem ptsd_one {ca : MB} (h : PC' X c ca) : PTsd X [c] ca := pts_one h
theorem comp_tf {K : PySem.W.Frag} {src : List (Option Nat)} {mi : ML} {g : Tg} {c : MB} {elt : ME} {σ : St} {H : Hp} {Q : VK} (h : TF K (mcomp src mi g c elt) σ H Q) : tComp src (TId K mi) (TGd K g) (TC K c) (TD K elt) σ H Q := by
  obtain ⟨F0, H0, F, ρ, out, rl, e, q⟩ := h
  unfold mcomp at e
  cases h1 : mi ρ with
  | none => rw [h1] at e; cases e
  | some its =>
    rw [h1] at e
    have e : compD g c elt its (blkRo src ρ) [] = some out := e
    refine ⟨F0, H0, F, ρ, its, rl, h1, fun J F1 H1 x1 I => ?_⟩
    intro p hp
    obtain ⟨rb, no⟩ := (rl.go x1).blk src
    have hF1 : F1 p = none := x1.fh.free hp
    refine ⟨fun i m σ' H' => ∃ F' ρ' acc xs, Rl K F1 H1 F' H' σ' ρ' ∧ NoOwn ρ' ∧ H' p = some (.lst xs) ∧ F' p = none ∧ Reps K F' xs acc ∧ i ≤ its.length ∧ m = its.length - i ∧ compD g c elt (its.drop i) ρ' acc = some out,
      ⟨_, F1, blkRo src ρ, [], [], rb.other no hp hF1, no, upd_same, hF1, .nil, Nat.zero_le _, rfl, e⟩, ?_⟩
    rintro i m σ' H' ⟨F', ρ', acc, xs, rl', no', hH', hF', ra, hi', rfl, e'⟩
    by_cases hlt : i < its.length
    · right
      have hd := List.getElem?_eq_getElem hlt
      refine ⟨I.go i F' H' rl'.ext.ff rl'.fh hlt, fun σ2 H2 => ∃ F2 ρ2 acc2 xs2, Rl K F1 H1 F2 H2 σ2 ρ2 ∧ NoOwn ρ2 ∧ H2 p = some (.lst xs2) ∧ F2 p = none ∧ Reps K F2 xs2 acc2 ∧ compD g c elt (its.drop (i + 1)) ρ2 acc2 = some out, ?_, fun x H2 y => ?_⟩
      · rintro σ2 H2 ⟨F2, ρ2, acc2, xs2, b1, b2, b3, b4, b5, b6⟩
        exact ⟨its.length - (i + 1), by omega, F2, ρ2, acc2, xs2, b1, b2, b3, b4, b5, hlt, rfl, b6⟩
      · obtain ⟨F2, x2, r2⟩ := I.yld i F' H' x H2 _ rl'.ext.ff rl'.fh hd y
        rw [drop_get hd] at e'
        unfold compD at e'
        have pn : ∀ {F3 H3 : Hp}, Ext F' H' F3 H3 → F3 p = none := fun {F3 H3} x3 => by
          cases qq : F3 p with
          | none => rfl
          | some o => have := x3.new p hF' (by rw [qq]; simp); rw [this] at hH'; cases hH'
        cases h2 : tgD g its[i] ρ' with
        | none => simp only [h2] at e'; cases e'
        | some ρ1 =>
          simp only [h2] at e'
          refine ⟨F1, H1, F2, ρ', _, ρ1, rl'.go x2, r2, h2, fun F3 H3 σ3 rl3 x3 => ?_⟩
          have no1 := no'.tg h2
          have x23 := x2.trans x3
          cases h3 : c ρ1 with
          | none => simp only [h3] at e'; cases e'
          | some k =>
            refine ⟨F1, H1, F3, ρ1, k, rl3, h3, fun F4 H4 x4 => ?_⟩
            have x24 := x23.trans x4
            cases k with
            | false =>
              simp only [h3] at e'
              exact iteF ⟨F4, ρ1, acc, xs, rl3.go x4, no1, x24.hh _ _ hH', pn x24, ra.mono x24.ff, e'⟩
            | true =>
              simp only [h3] at e'
              refine iteT ?_
              cases h4 : elt ρ1 with
              | none => simp only [h4] at e'; cases e'
              | some d =>
                simp only [h4] at e'
                split at e'
                · rename_i hz
                  refine ⟨F1, H1, F4, ρ1, d, rl3.go x4, h4, fun v F5 H5 x5 r5 => ?_⟩
                  have x25 := x24.trans x5
                  refine ⟨xs, x25.hh _ _ hH', by rw [ra.length]; exact hz, F5, ρ1, acc ++ [d], xs ++ [v], ((rl3.go x4).go x5).other no1 hp (pn x25), no1, upd_same, pn x25, (ra.mono x25.ff).append (.cons r5 .nil), e'⟩
                · cases e'
    · left
      have hieq : i = its.length := by omega
      subst hieq
      rw [List.drop_length] at e'
      have e' : some acc = some out := e'
      cases e'
      exact ⟨I.stop F' H' rl'.ext.ff rl'.fh, q p xs F' H' (x1.trans rl'.ext) (x1.hh.free hp) hF' hH' ra⟩
theorem pf_comp {sc : Scope} {N : List Str} {src : List (Option Nat)} {tg elt iter : Expr} {ifs : List Expr} {mi : ML} {g : Tg} {cc : MB} {me : ME} (B : Blk X sc N src) (hc : X.calm = true)
    (hi : PId X tg iter mi) (hg : ∀ C fp s H, PGd (blkCx X sc C N fp s H) tg g) (ht : ∀ C fp s H, PTsd (blkCx X sc C N fp s H) ifs cc) (he : ∀ C fp s H, PD (blkCx X sc C N fp s H) elt me)
    (hs : ∀ x, foldedSetIterable iter X.env x = pure x := by intro _; rfl) :
    PF X (.ListComp elt [⟨tg, iter, ifs, 0⟩] sc pos) (mcomp src mi g cc me) := (pe_comp (g := TGd X.K g) (tc := TC X.K cc) (te := TD X.K me) B hc hi (fun C fp s H => hg C fp s H) (fun C fp s H => ht C fp s H) (fun C fp s H => he C fp s H) hs).imp fun _ _ _ h => comp_tf h
theorem pf_imp {mf : ML} {σ : St} {H : Hp} {Q : VK} (h : TD X.K (mlst mf) σ H Q) : TF X.K mf σ H Q := by
  obtain ⟨F0, H0, F, ρ, d, r, e, q⟩ := h
  unfold mlst at e
  cases hm : mf ρ with
  | none => rw [hm] at e; cases e
  | some ds =>
    rw [hm] at e; cases e
    refine ⟨F0, H0, F, ρ, ds, r, hm, fun p xs F' H' x hp hF hH rs => ?_⟩
    exact q _ (upd F' p (.lst xs)) H' (x.freeze hF hp hH) (.lst (SqL.of upd_same) (rs.mono ((Same.refl F').put hF)))
theorem psd_setC {i : Nat} {src : List (Option Nat)} {mi : ML} {g : Tg} {cc : MB} {me : ME} (h : PS X st (tAsg (tComp src (TId X.K mi) (TGd X.K g) (TC X.K cc) (TD X.K me)) (gName i))) : PSd X st (msetF i (mcomp src mi g cc me)) := asg_f h fun _ _ _ q => comp_tf q
inductive Rt where
  | sh (d : D) | fr (ds : List D) | pr (d : D) (ds : List D)
abbrev MF := List D → Option Rt
def okT (K : PySem.W.Frag) (F H : Hp) (Q : VK) : Rt → Prop
  | .sh d => ∀ v F' H', Ext F H F' H' → Rep K F' v d → Q v H'
  | .fr ds => ∀ p xs F' H', Ext F H F' H' → H p = none → F' p = none → H' p = some (.lst xs) → Reps K F' xs ds → Q (.ref p) H'
  | .pr d ds => ∀ t v p xs F' H', Ext F H F' H' → H t = none → H p = none → t ≠ p → F' t = none → F' p = none → H' t = some (.tup [v, .ref p]) → H' p = some (.lst xs) → Rep K F' v d → Reps K F' xs ds → Q (.ref t) H'
def spR (K : PySem.W.Frag) (n : Nat) (m : MF) : Sp := fun vs H Q _ => vs.length = n ∧ ∃ F ds r, Same F H ∧ Reps K F vs ds ∧ m ds = some r ∧ okT K F H Q r
def startS (n : Nat) (ds : List D) : Ro := ds.map (fun d => some (.sh d)) ++ List.replicate (n - ds.length) none
def runB (n : Nat) (m : MS) : MF := fun ds => match m (startS n ds) with
  | some (.nx _) => some (.sh .non)
  | some (.rt d) => some (.sh d)
  | some (.rf es) => some (.fr es)
  | some (.rp d es) => some (.pr d es)
  | _ => none
theorem rl_start {K : PySem.W.Frag} {F H : Hp} {N : List Str} {vs : List V} {ds : List D} (s : Same F H) (r : Reps K F vs ds) : Rl K F H F H (start N vs) (startS N.length ds) := by
  have get : ∀ (i : Nat) x, (startS N.length ds)[i]? = some (some x) → ∃ d, x = S.sh d ∧ ds[i]? = some d := fun i x e => by
    unfold startS at e
    by_cases hi : i < ds.length
    · rw [List.getElem?_append_left (by simpa using hi), List.getElem?_map] at e
      cases q : ds[i]? with
      | none => rw [q] at e; cases e
      | some d => rw [q] at e; cases e; exact ⟨d, rfl, rfl⟩
    · rw [List.getElem?_append_right (by simpa using hi), List.getElem?_replicate] at e
      split at e <;> cases e
  refine ⟨.refl s, ?_, fun i d e => ?_, fun i ds e => ?_, fun i j p ds es _ e => ?_, fun i p ds e => ?_, fun i j p ds es e => ?_, fun i j p q ds es e => ?_⟩
  · unfold start startS; simp [r.length]
  · obtain ⟨d', e1, e2⟩ := get i _ e
    cases e1
    obtain ⟨v, e3, e4⟩ := r.get e2
    have hl : i < vs.length := (List.getElem?_eq_some_iff.mp e3).1
    refine ⟨v, ?_, e4⟩
    unfold start
    rw [List.getElem?_append_left (by simpa using hl), List.getElem?_map, e3]; rfl
  · obtain ⟨d', e1, _⟩ := get i _ e
    cases e1
  · obtain ⟨d', e1, _⟩ := get i _ e
    cases e1
  · obtain ⟨d', e1, _⟩ := get i _ e
    cases e1
  · obtain ⟨d', e1, _⟩ := get i _ e
    cases e1
  · obtain ⟨d', e1, _⟩ := get i _ e
    cases e1
theorem Fun.okD {P : Program} {w : World} {K : PySem.W.Frag} {mg : Str → Option Value} {base : Heap} {x qual : Str} {st : Stmt} {f : Addr} {fd : FuncData} {N ps : List Str} {k : Nat} {m : MS} (Fn : Fun K x qual st f fd) (Sc : FnScope N ps (defScope st))
    (hbody : ∀ (cdv : Value) (A : Around) (outer : List Env) (s : Shared) (H : Hp) (E : XK), Room k (A.deeper (envOfC qual (defScope st) s.heap.objs.size f cdv)) → PSsd (cxOf CX0 P w K mg base N qual (defScope st) f cdv A outer s H E).nox (defBody st) m) :
    FnOk P w K mg base CX0 (k + 1) f fd ps (spR K ps.length (runB N.length m)) := by
  refine Fn.ok Sc (fun vs H Q E h => h.1) fun cdv A outer s H vs Q E hr h => ?_
  obtain ⟨hl, F, ds, r, sf, rs, e, ok⟩ := h
  unfold runB at e
  cases h1 : m (startS N.length ds) with
  | none => rw [h1] at e; cases e
  | some o =>
    rw [h1] at e
    refine ⟨_, hbody cdv A outer s H E hr, F, H, F, startS N.length ds, o, rl_start sf rs, h1, ?_⟩
    cases o with
    | nx ρ => cases e; exact fun F' H' σ' rl _ => ok .non F' H' rl.ext .non
    | rt d => cases e; exact ok
    | rf es => cases e; exact ok
    | rp d es => cases e; exact ok
    | rg d p r => cases e
    | rgf d p r => cases e
    | bk ρ => cases e
    | ct ρ => cases e
@[irreducible] def mcall (f : MF) (m : ML) : ME := fun ρ => (m ρ).bind fun ds => match f ds with | some (.sh d) => some d | some (.fr es) => some (.lst es) | some (.pr d es) => some (.tup [d, .lst es]) | none => none
@[irreducible] def mcallF (f : MF) (m : ML) : ML := fun ρ => (m ρ).bind fun ds => match f ds with | some (.fr es) => some es | _ => none
variable {E : XK} {es : List Expr} {mf : MF} {m : ML}
theorem pd_call {n : Nat} (h : ∀ t, PA X es t → PE X e (tCall (spR X.K n mf) [] E t)) (hl : es.length = n) (ha : PAs X es m) (hm : ∀ ρ ds, m ρ = some ds → ds.length = es.length) : PD X e (mcall mf m) := (h _ ha).imp fun σ H Q ⟨F0, H0, F, ρ, d, rl, e, q⟩ => by
  unfold mcall at e
  cases h1 : m ρ with
  | none => rw [h1] at e; cases e
  | some ds =>
    rw [h1] at e
    refine ⟨F0, H0, F, ρ, ds, rl, h1, fun vs F1 H1 x1 r1 => ?_⟩
    dsimp only [Option.bind] at e
    show spR X.K n mf (vs ++ []) H1 Q E
    rw [List.append_nil]
    refine ⟨by rw [r1.length, hm ρ ds h1, hl], F1, ds, ?_⟩
    split at e
    · rename_i d' h2
      cases e
      exact ⟨_, x1.fh, r1, h2, fun v F2 H2 x2 r2 => q v F2 H2 (x1.trans x2) r2⟩
    · rename_i es' h2
      cases e
      exact ⟨_, x1.fh, r1, h2, fun p xs F2 H2 x2 hp hF hH r2 => q _ (upd F2 p (.lst xs)) H2 (x1.trans (x2.freeze hF hp hH)) (.lst (SqL.of upd_same) (r2.mono ((Same.refl F2).put hF)))⟩
    · rename_i d' es' h2
      cases e
      refine ⟨_, x1.fh, r1, h2, fun t v p xs F2 H2 x2 ht hp hne hFt hFp hHt hHp rv rs => ?_⟩
      have x3 := x2.freeze hFp hp hHp
      have hFt' : upd F2 p (.lst xs) t = none := by rw [upd_ne hne]; exact hFt
      have s2 : Same F2 (upd F2 p (.lst xs)) := (Same.refl F2).put hFp
      have s3 : Same (upd F2 p (.lst xs)) (upd (upd F2 p (.lst xs)) t (.tup [v, .ref p])) := (Same.refl _).put hFt'
      exact q _ (upd (upd F2 p (.lst xs)) t (.tup [v, .ref p])) H2 (x1.trans (x3.freeze hFt' ht hHt)) (.tup (SqT.of upd_same) (.cons (rv.mono (s2.trans s3)) (.cons (.lst (SqL.of (by rw [upd_ne (Ne.symm hne)]; exact upd_same)) (rs.mono (s2.trans s3))) .nil)))
    · cases e
theorem anil_len (ρ : Ro) (ds : List D) (h : anil ρ = some ds) : ds.length = 0 := by cases h; rfl
theorem acons_len {x : ME} {r : ML} {n : Nat} (hr : ∀ ρ ds, r ρ = some ds → ds.length = n) (ρ : Ro) (ds : List D) (h : acons x r ρ = some ds) : ds.length = n + 1 := by
  obtain ⟨d, es, _, h2, rfl⟩ := acons_some h
  rw [List.length_cons, hr ρ es h2]
end
end L2

set_option Elab.async false
set_option linter.all false
set_option maxRecDepth 100000
namespace L2
open PySem PySem.Spec PyProof.Rows
section
variable {X : Cx} {a b c e : Expr} {ma mb : ME} {pos : Pos}
def bl2 (g : Bool → Bool → Bool) : D → D → Option D
  | .bl i, .bl j => some (.bl (g i j))
  | _, _ => none
def rRng1 : List V → Hp → VK → Prop := fun vs H Q => ∃ j : Int, vs = [.int j] ∧ ∀ p, H p = none → Q (.ref p) (upd H p (.rng 0 j))
theorem call_rng1 : CallR X (.type "range") rRng1 := by
  intro pins s σ H xs us Q I r h
  obtain ⟨j, rfl, q⟩ := h
  obtain ⟨u, rfl, t, rfl⟩ := vals1 r
  refine call_range_1 ⟨.ref s.heap.objs.size, _, I.laid (o := .rng 0 j) (fun b o e => Heap.get?_push_of_some _ e) (Nat.le_refl _) ⟨_, _, _, Heap.get?_push_size _ rfl⟩, rfl, q _ I.fresh⟩
theorem reps_ints {K : PySem.W.Frag} {F : Hp} : ∀ ns : List Int, Reps K F (ns.map V.int) (ns.map D.int)
  | [] => .nil
  | n :: ns => .cons (.int n) (reps_ints ns)
theorem sp_law {K : PySem.W.Frag} {m : MF} (h : ∀ ns : List Int, ns.length ≤ 63 → m [.lst (ns.map .int)] = some (.sh (.bl true))) (H : Hp) (a : Addr) (ns : List Int) (hl : ns.length ≤ 63) (hS : SqL K H a (ns.map V.int)) (E : XK) :
    spR K 1 m [.ref a] H (fun v _ => v = .bl true) E :=
  ⟨rfl, H, _, _, Same.refl H, .cons (.lst hS (reps_ints ns)) .nil, h ns hl, fun v F' H' _ r => by cases r; rfl⟩
end
end L2
namespace L2
open PySem PySem.Spec PyProof.Rows
def blkOk (fsc : Scope) (fN : List Str) (sc : Scope) (N : List Str) (src : List (Option Nat)) : Bool :=
  (sc.kind == .function) && sc.names.all (fun y => y.2 != .cell) && sc.names.all (fun y => y.2 != .local || sc.names.lookup y.1 == some .local)
    && sc.names.all (fun y => y.2 != .free || (fsc.names.lookup y.1 == some .cell || fsc.names.lookup y.1 == some .free)) && (src.length == N.length)
    && (List.range src.length).all fun j => match src[j]? with
      | some (some i) => match N[j]? with
        | some x => fN[i]? == some x && sc.names.lookup x == some .free
        | none => false
      | _ => true
theorem blk_of {X : Cx} {sc : Scope} {N : List Str} {src : List (Option Nat)} (fsc : Scope) (fN : List Str) (h1 : X.env.scope = fsc) (h2 : X.N = fN) (h : blkOk fsc fN sc N src = true) : Blk X sc N src := by
  unfold blkOk at h
  simp only [Bool.and_eq_true, List.all_eq_true, beq_iff_eq, Bool.or_eq_true, bne_iff_ne, ne_eq] at h
  obtain ⟨⟨⟨⟨⟨a1, a2⟩, a3⟩, a4⟩, a5⟩, a6⟩ := h
  refine ⟨a1, a2, fun y hy hk => ?_, fun y hy hk => ?_, fun j i e => ?_, a5⟩
  · rcases a3 y hy with z | z
    · exact absurd hk z
    · exact z
  · have k : ∀ x, X.env.kindOf x = fsc.names.lookup x := fun x => by rw [← h1]; rfl
    rw [k]
    rcases a4 y hy with z | z
    · exact absurd hk z
    · exact z
  · have hj : j < src.length := (List.getElem?_eq_some_iff.mp e).1
    have := a6 j (List.mem_range.mpr hj)
    rw [e] at this
    simp only at this
    cases hx : N[j]? with
    | none => rw [hx] at this; cases this
    | some x =>
      rw [hx] at this
      simp only [Bool.and_eq_true, beq_iff_eq] at this
      exact ⟨x, rfl, by rw [h2]; exact this.1, this.2⟩
end L2
namespace L2
open PySem PySem.Spec PyProof.Rows
theorem pf_sl {X : Cx} {a : Expr} {ml : ML} {lo hi : Option Expr} {l h : MO} {p2 pos : Pos} (ha : PB X a ml) (hl : POs X lo l) (hh : POs X hi h) : PF X (.Subscript a (.Slice lo hi none p2) pos) (mcut ml l h) := pf_cut ha hl hh (pe_slice sl_list ha hl hh)
end L2

set_option Elab.async false
set_option linter.all false
set_option maxRecDepth 100000
namespace L2
open PySem PySem.Spec PyProof.Rows
def zipE (f : D → D → Option Bool) : List D → List D → Option Bool
  | d :: ds, e :: es => (f d e).bind fun a => (zipE f ds es).bind fun b => some (a && b)
  | _, _ => some true
def eqF : Nat → D → D → Option Bool
  | 0, _, _ => none
  | n + 1, .lst ds, .lst es => if ds.length = es.length then zipE (eqF n) ds es else some false
  | n + 1, .tup ds, .tup es => (zipE (eqF n) ds es).map fun b => b && ds.length == es.length
  | _ + 1, d, e => eqS d e
theorem zipE_all {f : D → D → Option Bool} : ∀ {ds es : List D} {k : Bool}, zipE f ds es = some k → ∃ g : Nat → Bool, (∀ j d e, ds[j]? = some d → es[j]? = some e → f d e = some (g j)) ∧ k = (List.range (min ds.length es.length)).all g
  | [], es, k, h => by
    have h : some true = some k := by simpa [zipE] using h
    cases h
    exact ⟨fun _ => true, by simp, by simp⟩
  | _ :: _, [], k, h => by
    have h : some true = some k := by simpa [zipE] using h
    cases h
    exact ⟨fun _ => true, by simp, by simp⟩
  | d :: ds, e :: es, k, h => by
    unfold zipE at h
    cases h1 : f d e with
    | none => rw [h1] at h; cases h
    | some a =>
      rw [h1] at h
      cases h2 : zipE f ds es with
      | none => rw [h2] at h; cases h
      | some b =>
        rw [h2] at h
        have h : some (a && b) = some k := h
        cases h
        obtain ⟨g, q1, q2⟩ := zipE_all h2
        refine ⟨fun j => match j with | 0 => a | j + 1 => g j, ?_, ?_⟩
        · intro j d' e' hd he
          cases j with
          | zero => simp at hd he; subst hd he; exact h1
          | succ j => exact q1 j d' e' (by simpa using hd) (by simpa using he)
        · rw [q2, List.length_cons, List.length_cons, Nat.add_min_add_right, List.range_succ_eq_map, List.all_cons, List.all_map]
          rfl
theorem zipE_refl {f : D → D → Option Bool} (hf : ∀ d k, f d d = some k → k = true) : ∀ {ds : List D} {k : Bool}, zipE f ds ds = some k → k = true
  | [], k, h => by simp [zipE] at h; exact h
  | d :: ds, k, h => by
    unfold zipE at h
    cases h1 : f d d with
    | none => rw [h1] at h; cases h
    | some a =>
      rw [h1] at h
      cases h2 : zipE f ds ds with
      | none => rw [h2] at h; cases h
      | some b =>
        rw [h2] at h
        have h : some (a && b) = some k := h
        cases h
        rw [hf d a h1, zipE_refl hf h2]; rfl
theorem eqF_refl : ∀ (n : Nat) (d : D) (k : Bool), eqF n d d = some k → k = true
  | 0, _, _, h => by simp [eqF] at h
  | n + 1, .lst ds, k, h => by
    simp only [eqF, if_true] at h
    exact zipE_refl (eqF_refl n) h
  | n + 1, .tup ds, k, h => by
    simp only [eqF] at h
    cases h1 : zipE (eqF n) ds ds with
    | none => rw [h1] at h; cases h
    | some b =>
      rw [h1] at h
      have := zipE_refl (eqF_refl n) h1
      subst this
      simp at h; exact h
  | n + 1, .non, k, h => by simp [eqF, eqS] at h; exact h
  | n + 1, .bl b, k, h => by simp [eqF, eqS] at h; exact h
  | n + 1, .int b, k, h => by simp [eqF, eqS] at h; exact h
  | n + 1, .str b, k, h => by simp [eqF, eqS] at h; exact h
section
variable {X : Cx} {pins : List (Addr × Obj)} {σ : St} {H : Hp} {s : Shared}
theorem Inv.no_both (I : Inv X pins σ H s) {a : Addr} {xs ys : List V} (h1 : SqL X.K H a xs) (h2 : SqT X.K H a ys) : False := by
  obtain ⟨its, _, ⟨o, n, e, hc, _⟩, _⟩ := I.list h1
  obtain ⟨its', _, ⟨o', e', hc', _⟩, _⟩ := I.tuple h2
  rw [e] at e'; cases e'
  rw [hc] at hc'
  injection hc' with q
  exact absurd q (by decide)
mutual
theorem Rep.inj (I : Inv X pins σ H s) : ∀ {v : V} {d e : D}, Rep X.K H v d → Rep X.K H v e → d = e
  | _, _, _, .non, .non => rfl
  | _, _, _, .bl b, .bl _ => rfl
  | _, _, _, .int i, .int _ => rfl
  | _, _, _, .str x, .str _ => rfl
  | _, _, _, .lst h r, .lst h' r' => by
    have e := I.list_inj h h'
    subst e
    rw [Reps.inj I r r']
  | _, _, _, .tup h r, .tup h' r' => by
    have e := I.tuple_inj h h'
    subst e
    rw [Reps.inj I r r']
  | _, _, _, .lst h _, .tup h' _ => (I.no_both h h').elim
  | _, _, _, .tup h _, .lst h' _ => (I.no_both h' h).elim
theorem Reps.inj (I : Inv X pins σ H s) : ∀ {vs : List V} {ds es : List D}, Reps X.K H vs ds → Reps X.K H vs es → ds = es
  | _, _, _, .nil, .nil => rfl
  | _, _, _, .cons h r, .cons h' r' => by rw [Rep.inj I h h', Reps.inj I r r']
end
open PySem.SeqAt in
theorem eq_at (I : Inv X pins σ H s) : ∀ (n : Nat) {A : Around} {x y : V} {v u : Value} {d e : D} {k : Bool}, A.units + n < cLine → Rep X.K H x d → Rep X.K H y e → RelV x v → RelV y u → eqF n d e = some k → EqAt A s v u k ∧ RcAt A s v u k ∧ RcNeAt A s v u (!k)
  | 0, A, x, y, v, u, d, e, k, hu, r1, r2, q1, q2, h => by simp [eqF] at h
  | n + 1, A, x, y, v, u, d, e, k, hu, r1, r2, q1, q2, h => by
    have hu0 : A.units < cLine := by omega
    have hu1 : A.in1.units + n < cLine := by show A.units + 1 + n < cLine; omega
    cases r1 with
    | non =>
      cases q1
      cases r2 with
      | non => cases q2; cases h; exact ⟨EqAt.same _, .none_none, .none_none⟩
      | bl b => cases q2; cases h; exact ⟨.none_bool _, .none_bool _, .none_bool _⟩
      | int b => obtain ⟨t, rfl⟩ := q2; cases h; exact ⟨.none_int _ _, .none_int _ _, .none_int _ _⟩
      | str b => obtain ⟨t, rfl⟩ := q2; cases h; exact ⟨.none_str _ _, .none_str _ _, .none_str _ _⟩
      | lst _ _ => cases h
      | tup _ _ => cases h
    | bl i =>
      cases q1
      cases r2 with
      | non => cases q2; cases h; exact ⟨.bool_none _, .bool_none _, .bool_none _⟩
      | bl b => cases q2; cases h; exact ⟨.bool_bool _ _, .bool_bool _ _, .bool_bool _ _⟩
      | int b => cases h
      | str b => obtain ⟨t, rfl⟩ := q2; cases h; exact ⟨.bool_str _ _ _, .bool_str _ _ _, .bool_str _ _ _⟩
      | lst _ _ => cases h
      | tup _ _ => cases h
    | int i =>
      obtain ⟨t0, rfl⟩ := q1
      cases r2 with
      | non => cases q2; cases h; exact ⟨.int_none _ _, .int_none _ _, .int_none _ _⟩
      | bl b => cases h
      | int b => obtain ⟨t, rfl⟩ := q2; cases h; exact ⟨.int_int _ _ _ _, .int_int _ _ _ _, .int_int _ _ _ _⟩
      | str b => obtain ⟨t, rfl⟩ := q2; cases h; exact ⟨.int_str _ _ _ _, .int_str _ _ _ _, .int_str _ _ _ _⟩
      | lst _ _ => cases h
      | tup _ _ => cases h
    | str i =>
      obtain ⟨t0, rfl⟩ := q1
      cases r2 with
      | non => cases q2; cases h; exact ⟨.str_none _ _, .str_none _ _, .str_none _ _⟩
      | bl b => cases q2; cases h; exact ⟨.str_bool _ _ _, .str_bool _ _ _, .str_bool _ _ _⟩
      | int b => obtain ⟨t, rfl⟩ := q2; cases h; exact ⟨.str_int _ _ _ _, .str_int _ _ _ _, .str_int _ _ _ _⟩
      | str b => obtain ⟨t, rfl⟩ := q2; cases h; exact ⟨.str_str _ _ _ _, .str_str _ _ _ _, .str_str _ _ _ _⟩
      | lst _ _ => cases h
      | tup _ _ => cases h
    | @lst a xs ds sq rs =>
      cases q1
      cases r2 with
      | @lst b ys es sq2 rs2 =>
        cases q2
        obtain ⟨its, vr, ⟨o, m, ho, hc, _, hd⟩, _⟩ := I.list sq
        obtain ⟨its2, vr2, ⟨o2, m2, ho2, hc2, _, hd2⟩, _⟩ := I.list sq2
        have L1 : s.heap.IsList a its.toArray := ⟨o, ho, hc, m, hd⟩
        have L2 : s.heap.IsList b its2.toArray := ⟨o2, ho2, hc2, m2, hd2⟩
        have z1 : its.length = ds.length := by rw [← vr.length, rs.length]
        have z2 : its2.length = es.length := by rw [← vr2.length, rs2.length]
        have main : RcAt A s (.ref a) (.ref b) k ∧ RcNeAt A s (.ref a) (.ref b) (!k) := by
          simp only [eqF] at h
          split at h
          · rename_i hl
            obtain ⟨g, g1, g2⟩ := zipE_all h
            have he : ∀ j (h1 : j < its.toArray.size) (h2 : j < its2.toArray.size), EqAt A.in1 s its.toArray[j] its2.toArray[j] (g j) := by
              intro j h1 h2
              simp only [List.size_toArray] at h1 h2
              obtain ⟨d', hd'⟩ : ∃ d', ds[j]? = some d' := ⟨_, List.getElem?_eq_getElem (by omega)⟩
              obtain ⟨e', he'⟩ : ∃ e', es[j]? = some e' := ⟨_, List.getElem?_eq_getElem (by omega)⟩
              obtain ⟨v', hv', rv'⟩ := rs.get hd'
              obtain ⟨u', hu', ru'⟩ := rs2.get he'
              obtain ⟨p, hp, rp⟩ := vr.get hv'
              obtain ⟨p2, hp2, rp2⟩ := vr2.get hu'
              have e1 : its.toArray[j] = p := by
                rw [List.getElem?_eq_getElem h1] at hp
                simpa using hp
              have e2 : its2.toArray[j] = p2 := by
                rw [List.getElem?_eq_getElem h2] at hp2
                simpa using hp2
              rw [e1, e2]
              exact (eq_at I n hu1 rv' ru' rp rp2 (g1 j d' e' hd' he')).1
            have hz : its.toArray.size = its2.toArray.size := by simp only [List.size_toArray]; omega
            have hk : k = (List.range its.toArray.size).all g := by
              rw [g2]; simp only [List.size_toArray]; rw [show min ds.length es.length = its.length by omega]
            rw [hk]
            exact ⟨.lists L1 L2 hz hu0 he, .lists L1 L2 hz hu0 he⟩
          · rename_i hl
            cases h
            have hz : (its.toArray.size != its2.toArray.size) = true := by simp only [List.size_toArray]; exact bne_iff_ne.mpr (by omega)
            exact ⟨.lists_lengths L1 L2 hz hu0, .lists_lengths L1 L2 hz hu0⟩
        refine ⟨?_, main⟩
        by_cases hab : a = b
        · subst hab
          have := Rep.inj I (.lst sq rs) (.lst sq2 rs2)
          rw [this] at h
          rw [eqF_refl _ _ _ h]
          exact EqAt.same _
        · exact .of_refs hab main.1
      | non => cases h
      | bl _ => cases h
      | int _ => cases h
      | str _ => cases h
      | tup _ _ => cases h
    | @tup a xs ds sq rs =>
      cases q1
      cases r2 with
      | @tup b ys es sq2 rs2 =>
        cases q2
        obtain ⟨its, vr, ⟨o, ho, hc, m, hd⟩, _⟩ := I.tuple sq
        obtain ⟨its2, vr2, ⟨o2, ho2, hc2, m2, hd2⟩, _⟩ := I.tuple sq2
        have L1 : s.heap.IsTuple a its.toArray := ⟨o, ho, hc, m, hd⟩
        have L2 : s.heap.IsTuple b its2.toArray := ⟨o2, ho2, hc2, m2, hd2⟩
        have z1 : its.length = ds.length := by rw [← vr.length, rs.length]
        have z2 : its2.length = es.length := by rw [← vr2.length, rs2.length]
        have main : RcAt A s (.ref a) (.ref b) k ∧ RcNeAt A s (.ref a) (.ref b) (!k) := by
          simp only [eqF] at h
          cases hz : zipE (eqF n) ds es with
          | none => rw [hz] at h; cases h
          | some kk =>
            rw [hz] at h
            have h : some (kk && ds.length == es.length) = some k := h
            cases h
            obtain ⟨g, g1, g2⟩ := zipE_all hz
            have he : ∀ j (h1 : j < its.toArray.size) (h2 : j < its2.toArray.size), EqAt A.in1 s its.toArray[j] its2.toArray[j] (g j) := by
              intro j h1 h2
              simp only [List.size_toArray] at h1 h2
              obtain ⟨d', hd'⟩ : ∃ d', ds[j]? = some d' := ⟨_, List.getElem?_eq_getElem (by omega)⟩
              obtain ⟨e', he'⟩ : ∃ e', es[j]? = some e' := ⟨_, List.getElem?_eq_getElem (by omega)⟩
              obtain ⟨v', hv', rv'⟩ := rs.get hd'
              obtain ⟨u', hu', ru'⟩ := rs2.get he'
              obtain ⟨p, hp, rp⟩ := vr.get hv'
              obtain ⟨p2, hp2, rp2⟩ := vr2.get hu'
              have e1 : its.toArray[j] = p := by
                rw [List.getElem?_eq_getElem h1] at hp
                simpa using hp
              have e2 : its2.toArray[j] = p2 := by
                rw [List.getElem?_eq_getElem h2] at hp2
                simpa using hp2
              rw [e1, e2]
              exact (eq_at I n hu1 rv' ru' rp rp2 (g1 j d' e' hd' he')).1
            have hk : (kk && ds.length == es.length) = ((List.range (min its.toArray.size its2.toArray.size)).all g && its.toArray.size == its2.toArray.size) := by
              rw [g2]; simp only [List.size_toArray]; rw [z1, z2]
            rw [hk]
            exact ⟨.tuples L1 L2 hu0 he, .tuples L1 L2 hu0 he⟩
        refine ⟨?_, main⟩
        by_cases hab : a = b
        · subst hab
          have := Rep.inj I (.tup sq rs) (.tup sq2 rs2)
          rw [this] at h
          rw [eqF_refl _ _ _ h]
          exact EqAt.same _
        · exact .of_refs hab main.1
      | non => cases h
      | bl _ => cases h
      | int _ => cases h
      | str _ => cases h
      | lst _ _ => cases h
end
end L2

set_option Elab.async false
set_option linter.all false
set_option maxRecDepth 100000
namespace L2
open PySem PySem.Spec PyProof.Rows
section
variable {X : Cx} {a b c e : Expr} {ma mb : ME} {la lb : ML} {pos : Pos}
def rEqF (K : PySem.W.Frag) (neg : Bool) : R2 := fun x y H Q => ∃ d e k, Rep K H x d ∧ Rep K H y e ∧ eqF 8 d e = some k ∧ Q (.bl (if neg then !k else k)) H
theorem op_eqF (hu : X.A.units + 64 < cLine) : OpR X (compareOp .Eq) (rEqF X.K false) := by
  intro pins s σ H x y v u Q I rx ry h
  obtain ⟨d, e, k, r1, r2, h, q⟩ := h
  exact (eq_at I 8 (by omega) r1 r2 rx ry h).2.1 X.prog X.w _ _ ⟨.bl k, H, I, rfl, q⟩
theorem op_neF (hu : X.A.units + 64 < cLine) : OpR X (compareOp .NotEq) (rEqF X.K true) := by
  intro pins s σ H x y v u Q I rx ry h
  obtain ⟨d, e, k, r1, r2, h, q⟩ := h
  exact (eq_at I 8 (by omega) r1 r2 rx ry h).2.2 X.prog X.w _ _ ⟨.bl (!k), H, I, rfl, q⟩
def eqFD (neg : Bool) (d e : D) : Option D := (eqF 8 d e).map fun k => .bl (if neg then !k else k)
@[irreducible] def meqB (neg : Bool) (x y : ML) : ME := fun ρ => (x ρ).bind fun ds => (y ρ).bind fun es => eqFD neg (.lst ds) (.lst es)
theorem eqB_d {neg : Bool} {σ : St} {H : Hp} {Q : VK} (h : TD X.K (meqB neg la lb) σ H Q) : tOp (rEqF X.K neg) (TB X.K la) (TB X.K lb) σ H Q := by
  obtain ⟨F0, H0, F, ρ, g, rl, e, q⟩ := h
  unfold meqB at e
  cases h1 : la ρ with
  | none => rw [h1] at e; cases e
  | some ds =>
    cases h2 : lb ρ with
    | none => rw [h1, h2] at e; cases e
    | some es =>
      rw [h1, h2] at e
      have e : eqFD neg (.lst ds) (.lst es) = some g := e
      refine ⟨F0, H0, F, ρ, ds, rl, h1, fun p xs F1 H1 x1 s1 r1 => ⟨F0, H0, F1, ρ, es, rl.go x1, h2, fun p2 xs2 F2 H2 x2 s2 r2 => ?_⟩⟩
      unfold eqFD at e
      cases hk : eqF 8 (.lst ds) (.lst es) with
      | none => rw [hk] at e; cases e
      | some k =>
        rw [hk] at e; cases e
        exact ⟨_, _, k, .lst (x2.hh.seq s1) (r1.mono (x2.ff.trans x2.fh)), .lst s2 (r2.mono x2.fh), hk, q _ F2 H2 (x1.trans x2) (.bl _)⟩
theorem pd_eqB {op : CmpOp} {neg : Bool} (ho : OpR X (compareOp op) (rEqF X.K neg)) (ha : PB X a la) (hb : PB X b lb) (hm : behindInMarks op b = false) : PD X (.Compare a [op] [b] pos) (meqB neg la lb) := (pe_cmpR ho ha hb hm).imp fun _ _ _ h => eqB_d h
theorem pc_eqB {op : CmpOp} {neg : Bool} (ho : OpR X (compareOp op) (rEqF X.K neg)) (ha : PB X a la) (hb : PB X b lb) (hm : behindInMarks op b = false) : PC' X (.Compare a [op] [b] pos) (mtest (meqB neg la lb)) := (pt_cmpR ho ha hb hm).imp fun σ H Q ⟨F0, H0, F, ρ, g, rl, e, q⟩ => by
  unfold mtest at e
  split at e
  · rename_i k hk
    cases e
    refine eqB_d ⟨F0, H0, F, ρ, .bl g, rl, hk, fun v F' H' x r => ?_⟩
    cases r
    exact ⟨_, rfl, q F' H' x⟩
  · cases e
def tyD : D → String
  | .non => "NoneType" | .bl _ => "bool" | .int _ => "int" | .str _ => "str" | .lst _ => "list" | .tup _ => "tuple"
def kitB (t c : String) : Option Bool := if (Value.type t == Value.type c) = true then some true else if PySem.W.kitMeta c = true then (fastBuiltinMro t).map (·.contains (Value.type c)) else none
theorem kit_ty {K : PySem.W.Frag} {t c : String} {k : Bool} (h : kitB t c = some k) : PySem.W.kitOne K (.type t) (.type c) = some k := h
theorem isi_rep {pins : List (Addr × Obj)} {σ : St} {H : Hp} {s : Shared} {A : Around} {E : Value → Shared → Prop} {Q : Value → Shared → Prop} {c : Value} {k : Bool} {x : V} {d : D} {u : Value} (I : Inv X pins σ H s) (rx : RelV x u) (r : Rep X.K H x d)
    (e : PySem.W.kitOne X.K (.type (tyD d)) c = some k) (h : ∀ tk, Q (.bool k) { s with toks := tk }) : wpAny (model X.prog X.w) A (call (.builtin "isinstance") [u, c]) Q E s := by
  cases r with
  | non => exact isinst_ok I rx .non e h
  | bl y => exact isinst_ok I rx (.bl y) e h
  | int i => exact isinst_ok I rx (.int i) e h
  | str y => exact isinst_ok I rx (.str y) e h
  | lst sq rs =>
    cases rx
    obtain ⟨its, vr, ⟨o, m, ho, hc, _, hd⟩, _⟩ := I.list sq
    exact PySem.W.kia_one PySem.W.kitx_list I.kIn ⟨_, ho, hc⟩ e (fun z => nomatch z) h
  | tup sq rs =>
    cases rx
    obtain ⟨its, vr, ⟨o, ho, hc, m, hd⟩, _⟩ := I.tuple sq
    exact PySem.W.kia_one PySem.W.kitx_tuple I.kIn ⟨_, ho, hc⟩ e (fun z => nomatch z) h
def rIsi (K : PySem.W.Frag) (c : String) : List V → Hp → VK → Prop := fun vs H Q => ∃ x d k, vs = [x, .ty c] ∧ Rep K H x d ∧ kitB (tyD d) c = some k ∧ Q (.bl k) H
theorem call_isi {c : String} : CallR X (.builtin "isinstance") (rIsi X.K c) := by
  intro pins s σ H xs us Q I r h
  obtain ⟨x, d, k, rfl, rd, e, q⟩ := h
  obtain ⟨u, w, rfl, rx, ry⟩ := vals2 r
  cases ry
  exact isi_rep I rx rd (kit_ty e) fun tk => ⟨.bl k, H, I.tok _, rfl, q⟩
@[irreducible] def misi (c : String) (m : ME) : ME := fun ρ => (m ρ).bind fun d => (kitB (tyD d) c).map .bl
theorem pd_isi {c : Str} {C : String} {p p2 : Pos} (hg : Gl X "isinstance") (hm : X.mg "isinstance" = none) (hgc : Gl X c) (hmc : X.mg c = none) (hv : bootBuiltins c = some (.type C)) (ha : PD X a ma)
    (hn : c ≠ "__name__" := by decide) (hd : (c == ("__debug__" : Str)) = false := by decide)
    (hs : starEach (a :: [.Name c p2]) X.env = (false, eval a X.env) :: starEach [.Name c p2] X.env := by rfl) (hs2 : starEach [.Name c p2] X.env = (false, eval (.Name c p2) X.env) :: starEach [] X.env := by rfl)
    (hpl : (backTo pos (starEach [.Name c p2] X.env)).any (·.1) = false := by rfl) : PD X (.Call (.Name "isinstance" p) [a, .Name c p2] [] pos) (misi C ma) :=
  (pe_callB (call_isi (c := C)) hg hm PyProof.Rows.boot_isinstance (pa_cons ha (pa_cons (pe_bltn (v := .ty C) hgc hmc hv rfl hn hd) pa_nil hs2) hs) (by decide) (by decide) hs hpl).imp fun σ H Q ⟨F0, H0, F, ρ, g, rl, e, q⟩ => by
    unfold misi at e
    cases h1 : ma ρ with
    | none => rw [h1] at e; cases e
    | some d =>
      rw [h1] at e
      have e : (kitB (tyD d) C).map D.bl = some g := e
      cases h2 : kitB (tyD d) C with
      | none => rw [h2] at e; cases e
      | some k =>
        rw [h2] at e; cases e
        exact ⟨F0, H0, F, ρ, d, rl, h1, fun v F1 H1 x1 r1 => ⟨v, d, k, rfl, r1.mono x1.fh, h2, q _ F1 H1 x1 (.bl _)⟩⟩
end
end L2

set_option Elab.async false
set_option linter.all false
set_option maxRecDepth 100000
namespace L2
open PySem PySem.Spec PyProof.Rows
theorem filterMap_get (its : List Value) : ∀ js : List Nat, (∀ j ∈ js, j < its.length) → js.filterMap (its.toArray[·]?) = js.map fun j => its.getD j Value.none
  | [], _ => rfl
  | j :: js, h => by
    have hj := h j (by simp)
    have e : its.toArray[j]? = some (its.getD j Value.none) := by simp [List.getD_eq_getElem?_getD, hj]
    rw [List.filterMap_cons, e, List.map_cons, filterMap_get its js fun k hk => h k (by simp [hk])]
theorem slicePick_rev (its : List Value) : slicePick its.toArray none none (some (-1)) = its.reverse.toArray := by
  have hb : sliceBounds none none (some (-1)) its.toArray.size = ((its.length : Int) - 1, -1, -1) := by
    simp [sliceBounds]
  have hr : sliceRange ((its.length : Int) - 1) (-1) (-1) = (List.range its.length).map fun (k : Nat) => ((its.length : Int) - 1 + -1 * (k : Int)).toNat := by
    unfold sliceRange
    have : (if (-1 : Int) > 0 then (if (its.length : Int) - 1 < -1 then (-1 - ((its.length : Int) - 1) + -1 - 1) / -1 else 0) else (if (its.length : Int) - 1 > -1 then ((its.length : Int) - 1 - -1 - -1 - 1) / (- -1) else 0)) = (its.length : Int) := by
      rw [if_neg (by decide)]
      split
      · rw [show (- -1 : Int) = 1 by decide, Int.ediv_one]; omega
      · omega
    simp only [this, Int.toNat_natCast]
  unfold slicePick
  rw [hb]
  show ((sliceRange ((its.length : Int) - 1) (-1) (-1)).filterMap (its.toArray[·]?)).toArray = _
  rw [hr, filterMap_get]
  · congr 1
    apply List.ext_getElem
    · simp
    · intro i h1 h2
      simp only [List.length_map, List.length_range] at h1
      simp only [List.getElem_map, List.getElem_range, List.getElem_reverse]
      have e : ((its.length : Int) - 1 + -1 * (i : Int)).toNat = its.length - 1 - i := by omega
      rw [e]
      simp [List.getD_eq_getElem?_getD, show its.length - 1 - i < its.length by omega]
  · intro j hj
    simp only [List.mem_map, List.mem_range] at hj
    obtain ⟨k, hk, rfl⟩ := hj
    omega
section
variable {X : Cx} {a b c e k : Expr} {te : TE} {ma mb : ME} {la lb : ML} {pos p2 : Pos} {st : Stmt}
def tRev (K : PySem.W.Frag) (te : TE) (tk : TO) : TE := fun σ H Q => te σ H fun x H1 => tk σ H1 fun o H2 => o = some (-1) ∧ ∃ a xs, x = .ref a ∧ SqL K H2 a xs ∧ ∀ p, H2 p = none → Q (.ref p) (upd H2 p (.lst xs.reverse))
theorem pe_rev {ko : Option Expr} {tk : TO} (he : PE X e te) (hk : PO X ko tk) (hsub : ∀ v i : Value, subscripted (.Slice none none ko p2) false v i = operate [v, i] (getItem v i)) : PE X (.Subscript e (.Slice none none ko p2) pos) (tRev X.K te tk) := by
  intro pins s σ H Q I h
  refine Subscript_ (thn (he pins s σ H _ I h) fun v s1 ⟨x, H1, I1, r1, q1⟩ => ?_)
  refine wpAny_Slice ?_
  rw [evalPart_none]
  refine wpAny_pure (wpAny_pure (thn (hk pins s1 σ H1 _ I1 q1) fun vk s3 ⟨o, H3, I3, pk, eo, a, xs, ex, hx, q⟩ => ?_))
  subst eo ex
  cases r1
  have I4 : Inv X pins σ H3 { s3 with heap := s3.heap.push { cls := .type "slice", data := .fields #[.none, .none, vk] } } := I3.kept (t' := s3.toks) fun b ob q => Heap.get?_push_of_some _ q
  obtain ⟨its, r, ht, hz⟩ := I4.list hx
  have hlen := r.length
  show wpAny (model X.prog X.w) X.A (subscriptTail e (.Slice none none ko p2) (.ref a) (.ref s3.heap.objs.size)) (EP X pins σ Q) X.xe { s3 with heap := s3.heap.push { cls := .type "slice", data := .fields #[.none, .none, vk] } }
  refine tail_any (ops := [.ref a, .ref s3.heap.objs.size]) ht.isList.typeIs slot_list_getitem.lookup ?_ (hsub _ _)
  refine wpAny_getItem_list_slice ht.isList (Heap.IsSliceOf.new ..) .none .none pk (by simp) ?_ (by rw [List.size_toArray] <;> omega)
  rw [slicePick_rev]
  refine ⟨.ref _, _, I4.laid (t' := s3.toks) (o := .lst xs.reverse) (fun b ob q => Heap.get?_push_of_some _ q) (Nat.le_refl _) ?_, rfl, q _ (I4.hok.fresh (Nat.le_refl _))⟩
  refine ⟨by rw [List.length_reverse]; exact hz, _, 0, ?_, Heap.get?_push_size _ rfl⟩
  exact Vals.reverse r
@[irreducible] def mrev (m : ML) (k : MO) : ML := fun ρ => (m ρ).bind fun ds => match k ρ with | some (some (-1)) => some ds.reverse | _ => none
theorem pf_rev {ko : Option Expr} {mk : MO} (ha : PB X a la) (hk : POs X ko mk) (hsub : ∀ v i : Value, subscripted (.Slice none none ko p2) false v i = operate [v, i] (getItem v i) := by intro _ _; with_unfolding_all rfl) : PF X (.Subscript a (.Slice none none ko p2) pos) (mrev la mk) := (pe_rev ha hk hsub).imp fun σ H Q ⟨F0, H0, F, ρ, g, rl, e, q⟩ => by
  unfold mrev at e
  cases h1 : la ρ with
  | none => rw [h1] at e; cases e
  | some ds =>
    rw [h1] at e
    dsimp only [Option.bind] at e
    split at e
    · rename_i h2
      cases e
      refine ⟨F0, H0, F, ρ, ds, rl, h1, fun p xs F1 H1 x1 s1 r1 => ⟨F0, H0, F1, ρ, _, rl.go x1, h2, fun F2 H2 x2 => ⟨rfl, p, xs, rfl, x2.hh.seq s1, fun w hw => ?_⟩⟩⟩
      have xx := x1.trans x2
      exact q w _ F2 _ (xx.trans (Ext.own x2.fh hw)) (xx.hh.free hw) (x2.fh.free hw) upd_same (r1.mono x2.ff).reverse
    · cases e
@[irreducible] def msetix2 (i : Nat) (ix iy v : ME) : MS := fun ρ => (v ρ).bind fun d => match d with
  | .tup [d1, d2] => match ρ[i]? with
    | some (some (.own ds)) => (ix ρ).bind fun x => match x with
      | .int k => (ixN ds.length k).bind fun j => (iy (ρ.set i (some (.own (ds.set j d1))))).bind fun y => match y with
        | .int k2 => (ixN ds.length k2).map fun j2 => .nx (ρ.set i (some (.own ((ds.set j d1).set j2 d2))))
        | _ => none
      | _ => none
    | _ => none
  | _ => none
end
end L2

set_option Elab.async false
set_option linter.all false
set_option maxRecDepth 100000
namespace L2
open PySem PySem.Spec PyProof.Rows
section
variable {X : Cx} {a b c e : Expr} {ma mb : ME} {la lb : ML} {pos : Pos} {st : Stmt}
def kitB2 (t c1 c2 : String) : Option Bool := match kitB t c1 with | some true => some true | some false => (match kitB t c2 with | some true => some true | some false => some false | none => none) | none => none
theorem kit_ty2 {K : PySem.W.Frag} {t c1 c2 : String} {k : Bool} (h : kitB2 t c1 c2 = some k) : PySem.W.kitAny K (.type t) [.type c1, .type c2] = some k := h
theorem isi_rep2 {pins : List (Addr × Obj)} {σ : St} {H : Hp} {s : Shared} {A : Around} {E : Value → Shared → Prop} {Q : Value → Shared → Prop} {k : Bool} {x : V} {d : D} {u : Value} {tp : Addr} {dd : Option Addr} {its : List Value} {n : Nat} {sl : Array (Option Value)} (I : Inv X pins σ H s) (rx : RelV x u) (r : Rep X.K H x d)
    (htp : s.heap.get? tp = some ⟨.type "tuple", dd, .seq its.toArray n, sl⟩)
    (e : PySem.W.kitAny X.K (.type (tyD d)) its = some k) (h : ∀ tk, Q (.bool k) { s with toks := tk }) : wpAny (model X.prog X.w) A (call (.builtin "isinstance") [u, .ref tp]) Q E s := by
  cases r with
  | non => cases rx; exact PySem.W.kia_tup PySem.W.kitx_none I.kIn True.intro htp e (fun z => nomatch z) h
  | bl y => cases rx; exact PySem.W.kia_tup PySem.W.kitx_bool I.kIn True.intro htp e (fun z => nomatch z) h
  | int i => obtain ⟨t, rfl⟩ := rx; exact PySem.W.kia_tup PySem.W.kitx_int I.kIn True.intro htp e (fun z => nomatch z) h
  | str y => obtain ⟨t, rfl⟩ := rx; exact PySem.W.kia_tup PySem.W.kitx_str I.kIn True.intro htp e (fun z => nomatch z) h
  | lst sq rs =>
    cases rx
    obtain ⟨its, vr, ⟨o, m, ho, hc, _, hd⟩, _⟩ := I.list sq
    exact PySem.W.kia_tup PySem.W.kitx_list I.kIn ⟨_, ho, hc⟩ htp e (fun z => nomatch z) h
  | tup sq rs =>
    cases rx
    obtain ⟨its, vr, ⟨o, ho, hc, m, hd⟩, _⟩ := I.tuple sq
    exact PySem.W.kia_tup PySem.W.kitx_tuple I.kIn ⟨_, ho, hc⟩ htp e (fun z => nomatch z) h
def rIsi2 (K : PySem.W.Frag) (c1 c2 : String) : List V → Hp → VK → Prop := fun vs H Q => ∃ x p d k, vs = [x, .ref p] ∧ H p = some (.tup [.ty c1, .ty c2]) ∧ Rep K H x d ∧ kitB2 (tyD d) c1 c2 = some k ∧ Q (.bl k) H
theorem call_isi2 {c1 c2 : String} : CallR X (.builtin "isinstance") (rIsi2 X.K c1 c2) := by
  intro pins s σ H xs us Q I r h
  obtain ⟨x, p, d, k, rfl, hp, rd, e, q⟩ := h
  obtain ⟨u, w, rfl, rx, ry⟩ := vals2 r
  cases ry
  obtain ⟨z, its, vr, ⟨⟨cls, dd, data, sl⟩, ho, hc, n, hd⟩⟩ := (show ObjOk X.prog X.w H s.heap p (.tup [.ty c1, .ty c2]) from I.hok p _ hp)
  obtain ⟨u1, u2, rfl, r1, r2⟩ := vals2 vr
  cases r1; cases r2
  simp only at hc hd
  subst hc hd
  exact isi_rep2 I rx rd ho (kit_ty2 e) fun tk => ⟨.bl k, H, I.tok _, rfl, q⟩
@[irreducible] def misi2 (c1 c2 : String) (m : ME) : ME := fun ρ => (m ρ).bind fun d => (kitB2 (tyD d) c1 c2).map .bl
theorem pd_isi2 {c1 c2 : Str} {C1 C2 : String} {p p1 p2 p3 : Pos} {x1} (hg : Gl X "isinstance") (hm : X.mg "isinstance" = none) (hg1 : Gl X c1) (hm1 : X.mg c1 = none) (hv1 : bootBuiltins c1 = some (.type C1)) (hg2 : Gl X c2) (hm2 : X.mg c2 = none) (hv2 : bootBuiltins c2 = some (.type C2)) (ha : PD X a ma)
    (hn1 : c1 ≠ "__name__" := by decide) (hd1 : (c1 == ("__debug__" : Str)) = false := by decide) (hn2 : c2 ≠ "__name__" := by decide) (hd2 : (c2 == ("__debug__" : Str)) = false := by decide)
    (hs : starEach (a :: [.Tuple [.Name c1 p1, .Name c2 p2] x1 p3]) X.env = (false, eval a X.env) :: starEach [.Tuple [.Name c1 p1, .Name c2 p2] x1 p3] X.env := by rfl) (hs2 : starEach [.Tuple [.Name c1 p1, .Name c2 p2] x1 p3] X.env = (false, eval (.Tuple [.Name c1 p1, .Name c2 p2] x1 p3) X.env) :: starEach [] X.env := by rfl)
    (hs3 : starEach [.Name c1 p1, .Name c2 p2] X.env = (false, eval (.Name c1 p1) X.env) :: starEach [.Name c2 p2] X.env := by rfl) (hs4 : starEach [.Name c2 p2] X.env = (false, eval (.Name c2 p2) X.env) :: starEach [] X.env := by rfl)
    (hpl : (backTo pos (starEach [.Tuple [.Name c1 p1, .Name c2 p2] x1 p3] X.env)).any (·.1) = false := by rfl) : PD X (.Call (.Name "isinstance" p) [a, .Tuple [.Name c1 p1, .Name c2 p2] x1 p3] [] pos) (misi2 C1 C2 ma) :=
  (pe_callB (call_isi2 (c1 := C1) (c2 := C2)) hg hm PyProof.Rows.boot_isinstance (pa_cons ha (pa_cons (pe_tup (pa_cons (pe_bltn (v := .ty C1) hg1 hm1 hv1 rfl hn1 hd1) (pa_cons (pe_bltn (v := .ty C2) hg2 hm2 hv2 rfl hn2 hd2) pa_nil hs4) hs3)) pa_nil hs2) hs) (by decide) (by decide) hs hpl).imp fun σ H Q ⟨F0, H0, F, ρ, g, rl, e, q⟩ => by
    unfold misi2 at e
    cases h1 : ma ρ with
    | none => rw [h1] at e; cases e
    | some d =>
      rw [h1] at e
      have e : (kitB2 (tyD d) C1 C2).map D.bl = some g := e
      cases h2 : kitB2 (tyD d) C1 C2 with
      | none => rw [h2] at e; cases e
      | some k =>
        rw [h2] at e; cases e
        refine ⟨F0, H0, F, ρ, d, rl, h1, fun v F1 H1 x1 r1 => ⟨by show 2 ≤ sizeLine; rw [sizeLine_eq]; decide, fun w hw => ?_⟩⟩
        exact ⟨v, w, d, k, rfl, upd_same, r1.mono (x1.fh.put (x1.fh.free hw)), h2, q _ F1 _ (x1.trans (Ext.own x1.fh hw)) (.bl _)⟩
end
end L2

set_option Elab.async false
set_option linter.all false
set_option maxRecDepth 100000
namespace L2
open PySem PySem.Spec PyProof.Rows
section
variable {K : PySem.W.Frag} {F0 H0 F H : Hp} {σ : St} {ρ : Ro}
theorem Rl.freezeP (r : Rl K F0 H0 F H σ ρ) {i : Nat} {ds : List D} (h : ρ[i]? = some (some (.own ds))) : ∃ p xs, F p = none ∧ Rl K F0 H0 (upd F p (.lst xs)) H σ (ρ.set i (some (.sh (.lst ds)))) := by
  obtain ⟨p, xs, a, b, c, d, z⟩ := r.own i ds h
  have hl : i < ρ.length := (List.getElem?_eq_some_iff.mp h).1
  have e : Ext F0 H0 (upd F p (.lst xs)) H := r.ext.freeze b z c
  have ff : Same F (upd F p (.lst xs)) := (Same.refl F).put b
  refine ⟨p, xs, b, ⟨e, by simp [r.len], fun j d' q => ?_, fun j es q => ?_, fun j k q es es' hjk e1 e2 e3 e4 => ?_, fun j q es e1 => ?_, fun j k q es es' e1 e2 e3 => ?_, fun j k q q' es es' e1 e2 => r.ob1 j k q q' es es' (set_ob e1).2 (set_ob e2).2⟩⟩
  · by_cases hj : i = j
    · subst hj
      rw [List.getElem?_set_self hl] at q
      cases q
      exact ⟨_, a, .lst (SqL.of upd_same) (d.mono ff)⟩
    · rw [List.getElem?_set_ne hj] at q
      obtain ⟨v, v1, v2⟩ := r.sh j d' q
      exact ⟨v, v1, v2.mono ff⟩
  · by_cases hj : i = j
    · subst hj
      rw [List.getElem?_set_self hl] at q
      cases q
    · rw [List.getElem?_set_ne hj] at q
      obtain ⟨p', xs', a', b', c', d', z'⟩ := r.own j es q
      have hp : p' ≠ p := fun w => r.inj i j p ds es hj h q a (by rw [← w]; exact a')
      exact ⟨p', xs', a', by rw [upd_ne hp]; exact b', c', d'.mono ff, z'⟩
  · have n1 : i ≠ j := fun w => by subst w; rw [List.getElem?_set_self hl] at e1; cases e1
    have n2 : i ≠ k := fun w => by subst w; rw [List.getElem?_set_self hl] at e2; cases e2
    rw [List.getElem?_set_ne n1] at e1
    rw [List.getElem?_set_ne n2] at e2
    exact r.inj j k q es es' hjk e1 e2 e3 e4
  · obtain ⟨n, e1⟩ := set_ob e1
    obtain ⟨o1, o2, o3, zs, o4, o5⟩ := r.ob j q es e1
    have hp : q ≠ p := fun w => r.obn j i q es ds e1 h (by rw [w]; exact a)
    exact ⟨o1, by rw [upd_ne hp]; exact o2, o3, zs, o4, o5.mono ff⟩
  · obtain ⟨n, e1⟩ := set_ob e1
    have n2 : i ≠ k := fun w => by subst w; rw [List.getElem?_set_self hl] at e2; cases e2
    rw [List.getElem?_set_ne n2] at e2
    exact r.obn j k q es es' e1 e2 e3
end
def isSc : D → Bool
  | .lst _ => false
  | .tup _ => false
  | _ => true
theorem sc_rep {K : PySem.W.Frag} {F G : Hp} {v : V} {d : D} (h : isSc d = true) (r : Rep K F v d) : Rep K G v d := by
  cases r with
  | non => exact .non
  | bl b => exact .bl b
  | int i => exact .int i
  | str x => exact .str x
  | lst _ _ => cases h
  | tup _ _ => cases h
end L2

set_option Elab.async false
set_option linter.all false
set_option maxRecDepth 100000
namespace L2
open PySem PySem.Spec PyProof.Rows
section
variable {X : Cx} {a b c e : Expr} {ma mb mz : ME} {la lb : ML} {pos : Pos}
def flV : D → Option V
  | .non => some .non | .bl b => some (.bl b) | .int i => some (.int i) | .str x => some (.str x)
  | _ => none
def flVs : List D → Option (List V)
  | [] => some []
  | d :: r => match flV d with | some v => (match flVs r with | some vs => some (v :: vs) | none => none) | none => none
theorem flV_rep {K : PySem.W.Frag} {F : Hp} {v u : V} {d : D} (r : Rep K F v d) (h : flV d = some u) : v = u ∧ flatV u = true := by
  cases r <;> cases h <;> exact ⟨rfl, rfl⟩
theorem flVs_reps {K : PySem.W.Frag} {F : Hp} : ∀ {vs us : List V} {ds : List D}, Reps K F vs ds → flVs ds = some us → vs = us ∧ us.all flatV = true
  | _, _, _, .nil, h => by cases h; exact ⟨rfl, rfl⟩
  | _, _, _, .cons (d := d) (ds := ds) r t, h => by
    unfold flVs at h
    cases h1 : flV d with
    | none => rw [h1] at h; cases h
    | some u =>
      cases h2 : flVs ds with
      | none => rw [h1, h2] at h; cases h
      | some us =>
        rw [h1, h2] at h; cases h
        obtain ⟨a1, a2⟩ := flV_rep r h1
        obtain ⟨b1, b2⟩ := flVs_reps t h2
        subst a1 b1
        exact ⟨rfl, by rw [List.all_cons, a2, b2]; rfl⟩
def inDs (neg : Bool) (d : D) (ds : List D) : Option D := match flV d, flVs ds with
  | some v, some vs => some (.bl (if neg then !inV v vs else inV v vs))
  | _, _ => none
def inD (neg : Bool) : D → D → Option D
  | d, .lst ds => inDs neg d ds
  | d, .tup ds => inDs neg d ds
  | _, _ => none
theorem inDs_some {neg : Bool} {d w : D} {ds : List D} (h : inDs neg d ds = some w) : ∃ v vs, flV d = some v ∧ flVs ds = some vs ∧ w = .bl (if neg then !inV v vs else inV v vs) := by
  unfold inDs at h
  split at h
  · rename_i v vs h1 h2; cases h; exact ⟨v, vs, h1, h2, rfl⟩
  · cases h
theorem opd_in {K : PySem.W.Frag} {neg : Bool} : OpD K (rIn K neg) (inD neg) := by
  intro F H x y d e w Q s r1 r2 h q
  cases r2 with
  | lst sq rs =>
    obtain ⟨v, vs, h1, h2, rfl⟩ := inDs_some (show inDs neg d _ = some w from h)
    obtain ⟨a1, a2⟩ := flV_rep r1 h1
    obtain ⟨b1, b2⟩ := flVs_reps rs h2
    subst a1 b1
    exact ⟨_, _, rfl, .inl (s.seq sq), a2, b2, q _ F H (.refl s) (.bl _)⟩
  | tup sq rs =>
    obtain ⟨v, vs, h1, h2, rfl⟩ := inDs_some (show inDs neg d _ = some w from h)
    obtain ⟨a1, a2⟩ := flV_rep r1 h1
    obtain ⟨b1, b2⟩ := flVs_reps rs h2
    subst a1 b1
    exact ⟨_, _, rfl, .inr (s.seqT sq), a2, b2, q _ F H (.refl s) (.bl _)⟩
  | _ => cases d <;> cases h

def addSD : D → D → Option D
  | .str x, .str y => if x.length + y.length ≤ sizeLine then some (.str (x ++ y)) else none
  | _, _ => none
def maxI : List Int → Int
  | [] => 0
  | a :: r => r.foldl (fun x y => if y > x then y else x) a
theorem foldMax : ∀ (r : List Int) (a : Int), (r.foldl (fun x y => if y > x then y else x) a ∈ a :: r) ∧ ∀ y ∈ a :: r, y ≤ r.foldl (fun x y => if y > x then y else x) a
  | [], a => ⟨by simp, fun y hy => by simp at hy; subst hy; exact Int.le_refl _⟩
  | b :: r, a => by
    obtain ⟨h1, h2⟩ := foldMax r (if b > a then b else a)
    rw [List.foldl_cons]
    refine ⟨?_, fun y hy => ?_⟩
    · rcases List.mem_cons.mp h1 with h | h
      · rw [h]; split <;> simp
      · exact List.mem_cons_of_mem _ (List.mem_cons_of_mem _ h)
    · have h0 := h2 _ List.mem_cons_self
      rcases List.mem_cons.mp hy with h | h
      · subst h; refine Int.le_trans ?_ h0; split <;> omega
      · rcases List.mem_cons.mp h with h | h
        · subst h; refine Int.le_trans ?_ h0; split <;> omega
        · exact h2 y (List.mem_cons_of_mem _ h)
theorem maxI_mem {ns : List Int} (h : ns ≠ []) : maxI ns ∈ ns := by
  cases ns with
  | nil => exact absurd rfl h
  | cons a r => exact (foldMax r a).1
theorem maxI_ge {ns : List Int} {y : Int} (h : y ∈ ns) : y ≤ maxI ns := by
  cases ns with
  | nil => cases h
  | cons a r => exact (foldMax r a).2 y h
theorem vals_intItems : ∀ {ns : List Int} {its : List Value}, Vals (ns.map V.int) its → ∃ xs : List (Int × Tok), its.toArray = intItems xs.toArray ∧ xs.map (·.1) = ns
  | [], _, .nil => ⟨[], by unfold intItems; simp, rfl⟩
  | n :: ns, _, .cons r t => by
    obtain ⟨k, rfl⟩ := r
    obtain ⟨xs, h1, h2⟩ := vals_intItems t
    refine ⟨(n, k) :: xs, ?_, by rw [List.map_cons, h2]⟩
    have := congrArg Array.toList h1
    unfold intItems at this ⊢
    simp at this ⊢
    exact this
theorem numAt_get (xs : List (Int × Tok)) {i : Nat} (h : i < xs.length) : numAt xs.toArray i = (xs[i]).1 := by
  unfold numAt
  simp [h]
def rMaxL (K : PySem.W.Frag) : List V → Hp → VK → Prop := fun vs H Q => ∃ p ns, vs = [.ref p] ∧ SqL K H p (ns.map V.int) ∧ ns ≠ [] ∧ Q (.int (maxI ns)) H
theorem call_maxL (hc : X.calm = true) : CallR X (.builtin "max") (rMaxL X.K) := by
  intro pins s σ H xs us Q I r h
  obtain ⟨p, ns, rfl, sq, hne, q⟩ := h
  obtain ⟨u, rfl, rx⟩ := vals1 r
  cases rx
  obtain ⟨its, vr, pl, hz⟩ := I.list sq
  obtain ⟨ts, h1, h2⟩ := vals_intItems vr
  have hp := pl.isList
  rw [h1] at hp
  have hlen : 0 < ts.length := by
    cases ts with
    | nil => simp at h2; exact absurd h2.symm (by simpa using hne)
    | cons _ _ => simp
  refine max_intList (I.ok.hd hc) hp (by simpa using hlen) fun v h' tk e k => ?_
  obtain ⟨b1, b2⟩ := argBest_gt (numAt ts.toArray) (ts.toArray.size - 1)
  rw [List.size_toArray] at b1 b2 e
  generalize hi : argBest (fun i j => decide (numAt ts.toArray i > numAt ts.toArray j)) (ts.length - 1) = i at b1 b2 e
  have hil : i < ts.length := by omega
  have hv : v = Value.int (ts[i]).1 (ts[i]).2 := by
    unfold intItems at e
    simp [hil] at e
    exact e.symm
  have hm : (ts[i]).1 = maxI ns := by
    have m1 : (ts[i]).1 ∈ ns := by rw [← h2]; exact List.mem_map_of_mem (List.getElem_mem hil)
    refine Int.le_antisymm (maxI_ge m1) ?_
    have m2 := maxI_mem hne
    rw [← h2] at m2
    obtain ⟨t, ht, e2⟩ := List.mem_map.mp m2
    obtain ⟨j, hj, e3⟩ := List.getElem_of_mem ht
    have := b2 j (by omega)
    rw [numAt_get ts hj, numAt_get ts hil, e3, e2, h2] at this
    exact this
  subst hv
  exact ⟨.int (maxI ns), H, I.kept k, ⟨_, by rw [hm]⟩, q⟩
def intsD : List D → Option (List Int)
  | [] => some []
  | .int i :: r => match intsD r with | some ns => some (i :: ns) | none => none
  | _ => none
theorem intsD_reps {K : PySem.W.Frag} {F : Hp} : ∀ {vs : List V} {ds : List D} {ns : List Int}, Reps K F vs ds → intsD ds = some ns → vs = ns.map V.int
  | _, _, _, .nil, h => by cases h; rfl
  | _, _, _, .cons (d := d) (ds := ds) r t, h => by
    cases r with
    | int i =>
      unfold intsD at h
      cases h1 : intsD ds with
      | none => simp only [h1] at h; cases h
      | some ns => simp only [h1] at h; cases h; rw [intsD_reps t h1]; rfl
    | _ => cases h
theorem intsD_map : ∀ ns : List Int, intsD (ns.map D.int) = some ns
  | [] => rfl
  | n :: ns => by show (match intsD (ns.map D.int) with | some ns => some (n :: ns) | none => none) = _; rw [intsD_map ns]
@[irreducible] def mmaxL (m : ML) : ME := fun ρ => match m ρ with | some ds => (match intsD ds with | some (n :: ns) => some (.int (maxI (n :: ns))) | _ => none) | none => none
theorem pd_maxL {p : Pos} {m : ML} (hc : X.calm = true) (hg : Gl X "max") (hm : X.mg "max" = none) (ha : PB X e m) (hs : starEach (e :: []) X.env = (false, eval e X.env) :: starEach [] X.env := by rfl) (he : starEach [e] X.env = (false, eval e X.env) :: starEach [] X.env := by rfl) (hpl : (backTo pos (starEach [] X.env)).any (·.1) = false := by rfl) : PD X (.Call (.Name "max" p) [e] [] pos) (mmaxL m) :=
  (pe_callB (call_maxL hc) hg hm PyProof.Rows.boot_max (pa_cons ha pa_nil hs) (by decide) (by decide) he hpl).imp fun σ H Q ⟨F0, H0, F, ρ, g, rl, e, q⟩ => by
    unfold mmaxL at e
    cases h1 : m ρ with
    | none => rw [h1] at e; cases e
    | some ds =>
      rw [h1] at e
      cases h2 : intsD ds with
      | none => simp only [h2] at e; cases e
      | some ns =>
        cases ns with
        | nil => simp only [h2] at e; cases e
        | cons n ns =>
          simp only [h2] at e; cases e
          refine ⟨F0, H0, F, ρ, ds, rl, h1, fun p xs F1 H1 x1 s1 r1 => ⟨p, n :: ns, rfl, ?_, by simp, q _ F1 H1 x1 (.int _)⟩⟩
          rw [← intsD_reps r1 h2]; exact s1
def tabVs : List (Str × Str) → List DictEntry → Prop
  | [], [] => True
  | (k, v) :: r, e :: es => (∃ t, e.key = .str k t) ∧ (∃ t, e.val = .str v t) ∧ tabVs r es
  | _, _ => False
structure KTab (w : World) (K : PySem.W.Frag) (a : Addr) (tab : List (Str × Str)) : Prop where
  ns : (a == sysModules) = false
  nd : (tab.map (·.1)).Nodup
  obj : ∃ es ep, K.lookup a = some ⟨.type "dict", none, .dict es ep, #[]⟩ ∧ tabVs tab es.toList ∧ ∀ e ∈ es.toList, ∀ k t, e.key = .str k t → e.hash = hashStr w k
theorem tab_pairs {P : Program} {w : World} : ∀ {tab : List (Str × Str)} {es : List DictEntry}, tabVs tab es → ∃ kvs : List (Key × Value), Pairs (mixKind P w) es kvs ∧ kvs.map (·.1) = tab.map (fun p => Sum.inr p.1) ∧ ∀ k, (∀ v, tab.lookup k = some v → ∃ t, valueAt kvs (Sum.inr k) = some (.str v t)) ∧ (tab.lookup k = none → valueAt kvs (Sum.inr k) = none)
  | [], [], _ => ⟨[], .nil, rfl, fun k => ⟨fun v h => by simp at h, fun _ => rfl⟩⟩
  | [], _ :: _, h => h.elim
  | _ :: _, [], h => h.elim
  | (k, v) :: r, e :: es, ⟨⟨t1, h1⟩, ⟨t2, h2⟩, h3⟩ => by
    obtain ⟨kvs, a1, a2, a3⟩ := tab_pairs (P := P) (w := w) h3
    refine ⟨(Sum.inr k, .str v t2) :: kvs, .cons (by rw [h1]; exact keyIs_str k t1) h2 a1, by rw [List.map_cons, List.map_cons, a2], fun k' => ?_⟩
    unfold valueAt
    by_cases hk : k' = k
    · subst hk
      refine ⟨fun v' h => ?_, fun h => ?_⟩
      · rw [List.lookup_cons_self] at h; cases h
        exact ⟨t2, by simp⟩
      · rw [List.lookup_cons_self] at h; cases h
    · have hb : (k' == k) = false := by simpa using hk
      have hb2 : ¬ ((Sum.inr k : Key) = Sum.inr k') := fun z => hk (Sum.inr.inj z).symm
      obtain ⟨c1, c2⟩ := a3 k'
      refine ⟨fun v' h => ?_, fun h => ?_⟩
      · rw [List.lookup_cons, hb] at h
        obtain ⟨t, ht⟩ := c1 v' h
        unfold valueAt at ht
        exact ⟨t, by simpa [hb2] using ht⟩
      · rw [List.lookup_cons, hb] at h
        have := c2 h
        unfold valueAt at this
        simpa [hb2] using this
theorem KTab.dict {t : Addr} {tab : List (Str × Str)} {pins : List (Addr × Obj)} {σ : St} {H : Hp} {s : Shared} (T : KTab X.w X.K t tab) (I : Inv X pins σ H s) : ∃ kvs : List (Key × Value), s.heap.DictOf (mixKind X.prog X.w) t kvs ∧ ∀ k, (∀ v, tab.lookup k = some v → ∃ t, valueAt kvs (Sum.inr k) = some (.str v t)) ∧ (tab.lookup k = none → valueAt kvs (Sum.inr k) = none) := by
  obtain ⟨es, ep, h1, h2, h3⟩ := T.obj
  obtain ⟨kvs, a1, a2, a3⟩ := tab_pairs (P := X.prog) (w := X.w) h2
  refine ⟨kvs, ⟨_, es, ep, I.kIn t _ h1, ⟨rfl, rfl, rfl⟩, rfl, fun e he => ?_, a1, ?_⟩, a3⟩
  · have key : ∀ {tab : List (Str × Str)} {es : List DictEntry}, tabVs tab es → ∀ e ∈ es, ∃ k t, e.key = .str k t := by
      intro tab
      induction tab with
      | nil => intro es h e he; cases es with
        | nil => cases he
        | cons _ _ => exact h.elim
      | cons p r ih =>
        intro es h e he
        cases es with
        | nil => cases he
        | cons e0 es =>
          obtain ⟨⟨t1, g1⟩, _, g3⟩ := h
          rcases List.mem_cons.mp he with z | z
          · subst z; exact ⟨_, t1, g1⟩
          · exact ih g3 e z
    obtain ⟨k, tk, hk⟩ := key h2 e (by simpa using he)
    exact ⟨Sum.inr k, by rw [hk]; exact keyIs_str k tk, h3 e (by simpa using he) k tk hk⟩
  · rw [a2]
    have := T.nd
    rw [show tab.map (fun p => (Sum.inr p.1 : Key)) = (tab.map (·.1)).map Sum.inr by rw [List.map_map]; rfl]
    exact List.Pairwise.map _ (fun _ _ h z => h (Sum.inr.inj z)) this
end
end L2

set_option Elab.async false
set_option linter.all false
set_option maxRecDepth 100000
namespace L2
open PySem PySem.Spec PyProof.Rows
section
variable {prog : Program} {w : World} {A : Around} {E : Value → Shared → Prop} {s : Shared}
structure ApT (z TO i1 i2 l : Addr) : Prop where
  lz : l ≠ z
  lTO : l ≠ TO
  l1 : l ≠ i1
  l2 : l ≠ i2
end
end L2

set_option Elab.async false
set_option linter.all false
set_option maxRecDepth 100000
namespace L2
open PySem PySem.Spec PyProof.Rows
section
variable {prog : Program} {w : World} {A : Around} {E : Value → Shared → Prop} {s : Shared}
end
section
variable {X : Cx}
end
end L2

set_option Elab.async false
set_option linter.all false
set_option maxRecDepth 100000
namespace L2
open PySem PySem.Spec PyProof.Rows
section
variable {X : Cx} {a b c e : Expr} {ma mb : ME} {la lb : ML} {pos : Pos}
end
section
variable {K : PySem.W.Frag} {F0 H0 F H H' : Hp} {σ : St} {ρ : Ro}
end
section
variable {X : Cx} {a b c e3 : Expr} {ma mb : ME} {la lb : ML} {pos : Pos} {E : XK} {es : List Expr} {mf : MF} {m : ML} {rb : List Stmt} {mx : MS} {cc : MB} {y : D}
end
end L2

set_option Elab.async false
set_option linter.all false
set_option maxRecDepth 100000
namespace L2
open PySem PySem.Spec PyProof.Rows
abbrev MEm := Ro → Option (D × Ro)
abbrev MLm := Ro → Option (List D × Ro)
def TDm (K : PySem.W.Frag) (m : MEm) : TE := fun σ H Q => ∃ F0 H0 F ρ d ρ', Rl K F0 H0 F H σ ρ ∧ m ρ = some (d, ρ') ∧ ∀ v F' H', Rl K F0 H0 F' H' σ ρ' → Same F F' → Rep K F' v d → Q v H'
def TAm (K : PySem.W.Frag) (m : MLm) : TA := fun σ H Q => ∃ F0 H0 F ρ ds ρ', Rl K F0 H0 F H σ ρ ∧ m ρ = some (ds, ρ') ∧ ∀ vs F' H', Rl K F0 H0 F' H' σ ρ' → Same F F' → Reps K F' vs ds → Q vs H'
def PDm (X : Cx) (e : Expr) (m : MEm) : Prop := PE X e (TDm X.K m)
def PAm (X : Cx) (es : List Expr) (m : MLm) : Prop := PA X es (TAm X.K m)
section
variable {X : Cx} {a b c e : Expr} {ma mb : ME} {na nb : MEm} {pos : Pos} {es : List Expr}
@[irreducible] def mpu (m : ME) : MEm := fun ρ => match m ρ with | some d => some (d, ρ) | none => none
@[irreducible] def apu (m : ML) : MLm := fun ρ => match m ρ with | some d => some (d, ρ) | none => none
theorem pdm_pure (h : PD X e ma) : PDm X e (mpu ma) := h.imp fun σ H Q ⟨F0, H0, F, ρ, d, ρ', rl, e, q⟩ => by
  unfold mpu at e
  split at e
  · rename_i d' hm; cases e; exact ⟨F0, H0, F, ρ, d, rl, hm, fun v F' H' x r => q v F' H' (rl.go x) x.ff r⟩
  · cases e
theorem pam_pure {m : ML} (h : PAs X es m) : PAm X es (apu m) := h.imp fun σ H Q ⟨F0, H0, F, ρ, d, ρ', rl, e, q⟩ => by
  unfold apu at e
  split at e
  · rename_i d' hm; cases e; exact ⟨F0, H0, F, ρ, d, rl, hm, fun v F' H' x r => q v F' H' (rl.go x) x.ff r⟩
  · cases e
variable {st : Stmt}
@[irreducible] def mretG (i : Nat) (x : MEm) : MS := fun ρ => match x ρ with
  | some (d, ρ1) => (match ρ1[i]? with | some (some (.ob p r)) => some (.rg d p r) | _ => none)
  | none => none
theorem psd_retG (i : Nat) (he : PDm X e na) : PSd X (.Return (some e) pos) (mretG i na) := (ps_ret he).imp fun D σ H ⟨F0, H0, F, ρ, o, rl, e, ok⟩ => by
  unfold mretG at e
  split at e
  · rename_i d ρ1 h1
    split at e
    · rename_i p r h2
      cases e
      refine ⟨F0, H0, F, ρ, d, ρ1, rl, h1, fun v F1 H1 rl1 s1 r1 => ?_⟩
      obtain ⟨o1, o2, o3, xs, o4, o5⟩ := rl1.ob i p r h2
      exact ok v F1 H1 xs rl1.ext r1 o2 o4 o5
    · cases e
  · cases e
end
abbrev MG := Addr → List D → List D → Option (Rt × List D)
def del (H : Hp) (p : Addr) : Hp := fun b => if b = p then none else H b
theorem del_self {H : Hp} {p : Addr} : del H p p = none := by unfold del; rw [if_pos rfl]
theorem del_ne {H : Hp} {p b : Addr} (h : b ≠ p) : del H p b = H b := by unfold del; rw [if_neg h]
def okG (K : PySem.W.Frag) (F H : Hp) (p : Addr) (Q : VK) (r' : List D) : Rt → Prop
  | .sh d => ∀ v F' H' xs, Ext F (del H p) F' H' → Rep K F' v d → F' p = none → H' p = some (.lst xs) → Reps K F' xs r' → Q v H'
  | .fr ds => ∀ q ys F' H' xs, Ext F (del H p) F' H' → H q = none → F' q = none → H' q = some (.lst ys) → Reps K F' ys ds → F' p = none → H' p = some (.lst xs) → Reps K F' xs r' → Q (.ref q) H'
  | .pr _ _ => False
def spG (K : PySem.W.Frag) (n : Nat) (m : MG) : Sp := fun vs H Q _ => vs.length = n ∧ ∃ p ws F r0 ds r r1 xs, vs = .ref p :: ws ∧ H p = some (.lst xs) ∧ F p = none ∧ Same F H ∧ Reps K F xs r0 ∧ Reps K F ws ds ∧ m p r0 ds = some (r, r1) ∧ okG K F H p Q r1 r
def startG (n : Nat) (p : Addr) (r : List D) (ds : List D) : Ro := some (.ob p r) :: startS (n - 1) ds
def runG (n : Nat) (m : MS) : MG := fun p r ds => match m (startG n p r ds) with
  | some (.rg d q r') => if q = p then some (.sh d, r') else none
  | some (.rgf es q r') => if q = p then some (.fr es, r') else none
  | _ => none
theorem rl_startG {K : PySem.W.Frag} {F H : Hp} {N : List Str} {p : Addr} {xs ws : List V} {r ds : List D} (hn : 0 < N.length) (s : Same F H) (hF : F p = none) (hH : H p = some (.lst xs)) (hr : Reps K F xs r) (rs : Reps K F ws ds) : Rl K F (del H p) F H (start N (.ref p :: ws)) (startG N.length p r ds) := by
  have e0 : start N (.ref p :: ws) = some (.ref p) :: start N.tail ws := by
    unfold start
    rw [List.map_cons, List.cons_append, List.length_cons, List.length_tail]
    congr 2
    congr 1
    omega
  have e1 : startG N.length p r ds = some (.ob p r) :: startS N.tail.length ds := by unfold startG; rw [List.length_tail]
  have base := rl_start (N := N.tail) s rs
  have only : ∀ (j : Nat) x, (startS N.tail.length ds)[j]? = some (some x) → ∃ d, x = S.sh d := fun j x e => by
    unfold startS at e
    by_cases hi : j < ds.length
    · rw [List.getElem?_append_left (by simpa using hi), List.getElem?_map] at e
      cases q : ds[j]? with
      | none => rw [q] at e; cases e
      | some d => rw [q] at e; cases e; exact ⟨d, rfl⟩
    · rw [List.getElem?_append_right (by simpa using hi), List.getElem?_replicate] at e
      split at e <;> cases e
  rw [e0, e1]
  refine ⟨⟨Same.refl F, fun b o e => ?_, s, fun b e n => absurd e n, fun _ _ _ z => z⟩, by rw [List.length_cons, List.length_cons, base.len], fun i d e => ?_, fun i es e => ?_, fun i j q es es' _ e => ?_, fun i q es e => ?_, fun i j q es es' e e2 => ?_, fun i j q q' es es' e e2 => ?_⟩
  · by_cases hb : b = p
    · subst hb; rw [del_self] at e; cases e
    · rw [del_ne hb] at e; exact e
  · cases i with
    | zero => cases e
    | succ i => exact base.sh i d e
  · cases i with
    | zero => cases e
    | succ i => obtain ⟨d, z⟩ := only i _ e; cases z
  · cases i with
    | zero => cases e
    | succ i => obtain ⟨d, z⟩ := only i _ e; cases z
  · cases i with
    | zero => cases e; exact ⟨rfl, hF, del_self, xs, hH, hr⟩
    | succ i => obtain ⟨d, z⟩ := only i _ e; cases z
  · cases j with
    | zero => cases e2
    | succ j => obtain ⟨d, z⟩ := only j _ e2; cases z
  · cases i with
    | zero =>
      cases j with
      | zero => rfl
      | succ j => obtain ⟨d, z⟩ := only j _ e2; cases z
    | succ i => obtain ⟨d, z⟩ := only i _ e; cases z
theorem Fun.okGl {P : Program} {w : World} {K : PySem.W.Frag} {mg : Str → Option Value} {base : Heap} {x qual : Str} {st : Stmt} {f : Addr} {fd : FuncData} {N ps : List Str} {k : Nat} {m : MS} (Fn : Fun K x qual st f fd) (Sc : FnScope N ps (defScope st)) (hn : 0 < N.length)
    (hbody : ∀ (cdv : Value) (A : Around) (outer : List Env) (s : Shared) (H : Hp) (E : XK), Room k (A.deeper (envOfC qual (defScope st) s.heap.objs.size f cdv)) → PSsd (cxOf CX0 P w K mg base N qual (defScope st) f cdv A outer s H E).nox (defBody st) m) :
    FnOk P w K mg base CX0 (k + 1) f fd ps (spG K ps.length (runG N.length m)) := by
  refine Fn.ok Sc (fun vs H Q E h => h.1) fun cdv A outer s H vs Q E hr h => ?_
  obtain ⟨hl, p, ws, F, r0, ds, r, r1, xs, rfl, hH, hF, sf, rx, rs, e, ok⟩ := h
  unfold runG at e
  cases h1 : m (startG N.length p r0 ds) with
  | none => rw [h1] at e; cases e
  | some o =>
    rw [h1] at e
    refine ⟨_, hbody cdv A outer s H E hr, F, del H p, F, startG N.length p r0 ds, o, rl_startG hn sf hF hH rx rs, h1, ?_⟩
    cases o with
    | rg d q r' =>
      have e : (if q = p then some (Rt.sh d, r') else none) = some (r, r1) := e
      by_cases hq : q = p
      · rw [if_pos hq] at e
        cases e
        subst hq
        exact fun v F' H' xs' x rv f1 h1 rr => ok v F' H' xs' x rv f1 h1 rr
      · rw [if_neg hq] at e; cases e
    | rgf es q r' =>
      have e : (if q = p then some (Rt.fr es, r') else none) = some (r, r1) := e
      by_cases hq : q = p
      · rw [if_pos hq] at e
        cases e
        subst hq
        exact fun q' ys F' H' xs' x h0 f0 hne hq' rq f1 h1 rr => ok q' ys F' H' xs' x (by rw [del_ne hne] at h0; exact h0) f0 hq' rq f1 h1 rr
      · rw [if_neg hq] at e; cases e
    | nx _ => cases e
    | bk _ => cases e
    | ct _ => cases e
    | rt _ => cases e
    | rf _ => cases e
    | rp _ _ => cases e
end L2

set_option Elab.async false
set_option linter.all false
set_option maxRecDepth 100000
namespace L2
open PySem PySem.Spec PyProof.Rows
section
variable {K : PySem.W.Frag} {F0 H0 F H F' H' : Hp} {σ : St} {ρ : Ro}
theorem Ext.lent (a : Ext F0 H0 F H) {p : Addr} (h0 : H0 p = none) (x : Ext F (del H p) F' H') : Ext F0 H0 F' H' :=
  ⟨a.ff.trans x.ff, fun b o e => by
    have hb : b ≠ p := fun z => by rw [z, h0] at e; cases e
    exact x.hh b o (by rw [del_ne hb]; exact a.hh b o e), x.fh, fun b e n => by
    by_cases hf : F b = none
    · by_cases hb : b = p
      · rw [hb]; exact h0
      · have := x.new b hf n
        rw [del_ne hb] at this
        exact a.hh.free this
    · exact a.new b e hf, fun b o u z => a.nf b o u (x.nf b o u z)⟩
theorem Rl.lent (r : Rl K F0 H0 F H σ ρ) {i : Nat} {p : Addr} {xs : List V} {r0 r1 : List D} (h : ρ[i]? = some (some (.own r0))) (hp : σ[i]? = some (some (.ref p))) (x : Ext F (del H p) F' H') (hF : F' p = none) (hH : H' p = some (.lst xs)) (hr : Reps K F' xs r1) : Rl K F0 H0 F' H' σ (ρ.set i (some (.own r1))) := by
  obtain ⟨p', xs', a, b, c, d, z⟩ := r.own i r0 h
  rw [hp] at a; cases a
  have hl : i < ρ.length := (List.getElem?_eq_some_iff.mp h).1
  have keepF : ∀ q, q ≠ p → F q = none → (∃ o, H q = some o) → F' q = none := fun q hq f ⟨o, ho⟩ => by
    cases w : F' q with
    | none => rfl
    | some u => have := x.new q f (by rw [w]; simp); rw [del_ne hq, ho] at this; cases this
  have keepH : ∀ q o, q ≠ p → H q = some o → H' q = some o := fun q o hq ho => x.hh q o (by rw [del_ne hq]; exact ho)
  have back : ∀ (j : Nat) fs, (ρ.set i (some (S.own r1)))[j]? = some (some (.own fs)) → (j = i ∧ fs = r1) ∨ (i ≠ j ∧ ρ[j]? = some (some (.own fs))) := fun j fs e => by
    by_cases hj : i = j
    · subst hj; rw [List.getElem?_set_self hl] at e; cases e; exact .inl ⟨rfl, rfl⟩
    · rw [List.getElem?_set_ne hj] at e; exact .inr ⟨hj, e⟩
  refine ⟨r.ext.lent z x, by simp [r.len], fun j d' q => ?_, fun j fs q => ?_, fun j k q fs fs' hjk e1 e2 e3 e4 => ?_, fun j q fs e1 => ?_, fun j k q fs fs' e1 e2 e3 => ?_, fun j k q q' es es' e1 e2 => r.ob1 j k q q' es es' (set_ob e1).2 (set_ob e2).2⟩
  · by_cases hj : i = j
    · subst hj; rw [List.getElem?_set_self hl] at q; cases q
    · rw [List.getElem?_set_ne hj] at q
      obtain ⟨v, v1, v2⟩ := r.sh j d' q
      exact ⟨v, v1, v2.mono x.ff⟩
  · rcases back j fs q with ⟨rfl, rfl⟩ | ⟨n, e⟩
    · exact ⟨p, xs, hp, hF, hH, hr, z⟩
    · obtain ⟨p2, xs2, a2, b2, c2, d2, z2⟩ := r.own j fs e
      have hpp : p2 ≠ p := fun w => r.inj i j p r0 fs n h e hp (by rw [← w]; exact a2)
      exact ⟨p2, xs2, a2, keepF p2 hpp b2 ⟨_, c2⟩, keepH _ _ hpp c2, d2.mono x.ff, z2⟩
  · have b1 : ∃ g, ρ[j]? = some (some (.own g)) := by
      rcases back j fs e1 with ⟨rfl, _⟩ | ⟨_, w⟩
      · exact ⟨_, h⟩
      · exact ⟨_, w⟩
    have b2 : ∃ g, ρ[k]? = some (some (.own g)) := by
      rcases back k fs' e2 with ⟨rfl, _⟩ | ⟨_, w⟩
      · exact ⟨_, h⟩
      · exact ⟨_, w⟩
    obtain ⟨g1, w1⟩ := b1
    obtain ⟨g2, w2⟩ := b2
    exact r.inj j k q g1 g2 hjk w1 w2 e3 e4
  · obtain ⟨n, e1⟩ := set_ob e1
    obtain ⟨o1, o2, o3, zs, o4, o5⟩ := r.ob j q fs e1
    have hpp : q ≠ p := fun w => r.obn j i q fs r0 e1 h (by rw [w]; exact hp)
    exact ⟨o1, keepF q hpp o2 ⟨_, o4⟩, o3, zs, keepH _ _ hpp o4, o5.mono x.ff⟩
  · obtain ⟨n, e5⟩ := set_ob e1
    rcases back k fs' e2 with ⟨e6, _⟩ | ⟨_, w⟩
    · rw [e6] at e3; exact r.obn j i q fs r0 e5 h e3
    · exact r.obn j k q fs fs' e5 w e3
theorem Rl.lentB (r : Rl K F0 H0 F H σ ρ) {i : Nat} {p : Addr} {xs : List V} {r0 r1 : List D} (h : ρ[i]? = some (some (.ob p r0))) (x : Ext F (del H p) F' H') (hF : F' p = none) (hH : H' p = some (.lst xs)) (hr : Reps K F' xs r1) : Rl K F0 H0 F' H' σ (ρ.set i (some (.ob p r1))) := by
  obtain ⟨a, b, z, xs', c, d⟩ := r.ob i p r0 h
  have hl : i < ρ.length := (List.getElem?_eq_some_iff.mp h).1
  have keepF : ∀ q, q ≠ p → F q = none → (∃ o, H q = some o) → F' q = none := fun q hq f ⟨o, ho⟩ => by
    cases w : F' q with
    | none => rfl
    | some u => have := x.new q f (by rw [w]; simp); rw [del_ne hq, ho] at this; cases this
  have keepH : ∀ q o, q ≠ p → H q = some o → H' q = some o := fun q o hq ho => x.hh q o (by rw [del_ne hq]; exact ho)
  have back : ∀ (j : Nat) q fs, (ρ.set i (some (S.ob p r1)))[j]? = some (some (.ob q fs)) → j = i ∧ q = p ∧ fs = r1 := fun j q fs e => by
    by_cases hj : i = j
    · subst hj; rw [List.getElem?_set_self hl] at e; cases e; exact ⟨rfl, rfl, rfl⟩
    · rw [List.getElem?_set_ne hj] at e; exact absurd (r.ob1 i j p q r0 fs h e) hj
  have other : ∀ (j : Nat) fs, (ρ.set i (some (S.ob p r1)))[j]? = some (some (.own fs)) → i ≠ j ∧ ρ[j]? = some (some (.own fs)) := fun j fs e => by
    by_cases hj : i = j
    · subst hj; rw [List.getElem?_set_self hl] at e; cases e
    · rw [List.getElem?_set_ne hj] at e; exact ⟨hj, e⟩
  refine ⟨r.ext.lent z x, by simp [r.len], fun j d' q => ?_, fun j fs q => ?_, fun j k q fs fs' hjk e1 e2 e3 e4 => r.inj j k q fs fs' hjk (other j fs e1).2 (other k fs' e2).2 e3 e4, fun j q fs e1 => ?_, fun j k q fs fs' e1 e2 e3 => ?_, fun j k q q' fs fs' e1 e2 => ?_⟩
  · by_cases hj : i = j
    · subst hj; rw [List.getElem?_set_self hl] at q; cases q
    · rw [List.getElem?_set_ne hj] at q
      obtain ⟨v, v1, v2⟩ := r.sh j d' q
      exact ⟨v, v1, v2.mono x.ff⟩
  · obtain ⟨n, e⟩ := other j fs q
    obtain ⟨p2, xs2, a2, b2, c2, d2, z2⟩ := r.own j fs e
    have hpp : p2 ≠ p := fun w => r.obn i j p r0 fs h e (by rw [← w]; exact a2)
    exact ⟨p2, xs2, a2, keepF p2 hpp b2 ⟨_, c2⟩, keepH _ _ hpp c2, d2.mono x.ff, z2⟩
  · obtain ⟨e2, e3, e4⟩ := back j q fs e1
    subst e2 e3 e4
    exact ⟨a, hF, z, xs, hH, hr⟩
  · obtain ⟨e4, e5, _⟩ := back j q fs e1
    subst e4 e5
    exact r.obn j k q r0 fs' h (other k fs' e2).2 e3
  · rw [(back j q fs e1).1, (back k q' fs' e2).1]
end
open Classical in
noncomputable def anyP {α : Type} (f : Addr → Option α) : Option α := if h : ∃ x, ∀ p, f p = some x then some (Classical.choose h) else none
theorem anyP_some {α : Type} {f : Addr → Option α} {x : α} (h : anyP f = some x) : ∀ p, f p = some x := by
  unfold anyP at h
  split at h
  · rename_i hx
    cases h
    exact Classical.choose_spec hx
  · cases h
theorem anyP_of {α : Type} {f : Addr → Option α} {x : α} (h : ∀ p, f p = some x) : anyP f = some x := by
  unfold anyP
  have hx : ∃ x, ∀ p, f p = some x := ⟨x, h⟩
  rw [dif_pos hx]
  have := Classical.choose_spec hx 0
  rw [h 0] at this
  exact this.symm
def rtD : Rt → Option D
  | .sh d => some d
  | .fr es => some (.lst es)
  | .pr _ _ => none
@[irreducible] noncomputable def mcallG (f : MG) (i : Nat) (m : MLm) : MEm := fun ρ => match ρ[i]? with
  | some (some (.own _)) => (match m ρ with
    | some (ds, ρ1) => (match ρ1[i]? with
      | some (some (.own r0)) => (match anyP (fun p => f p r0 ds) with
        | some (t, r1) => (match rtD t with | some d => some (d, ρ1.set i (some (.own r1))) | none => none)
        | none => none)
      | _ => none)
    | none => none)
  | some (some (.ob _ _)) => (match m ρ with
    | some (ds, ρ1) => (match ρ1[i]? with
      | some (some (.ob p r0)) => (match f p r0 ds with
        | some (t, r1) => (match rtD t with | some d => some (d, ρ1.set i (some (.ob p r1))) | none => none)
        | none => none)
      | _ => none)
    | none => none)
  | _ => none
theorem apu_len {m : ML} {n : Nat} (h : ∀ ρ ds, m ρ = some ds → ds.length = n) (ρ : Ro) (ds : List D) (ρ' : Ro) (e : apu m ρ = some (ds, ρ')) : ds.length = n := by
  unfold apu at e
  split at e
  · rename_i d hm; cases e; exact h ρ _ hm
  · cases e
section
variable {X : Cx} {e : Expr} {pos : Pos} {es : List Expr} {E : XK} {mf : MG} {m : MLm}
theorem pdm_callG {n i : Nat} {x : Str} {px : Pos} (h : ∀ t, PA X (.Name x px :: es) t → PE X e (tCall (spG X.K n mf) [] E t)) (hl : es.length + 1 = n) (hv : PE X (.Name x px) (tVar i)) (ha : PAm X es m) (hm : ∀ ρ ds ρ', m ρ = some (ds, ρ') → ds.length = es.length)
    (hs : starEach (.Name x px :: es) X.env = (false, eval (.Name x px) X.env) :: starEach es X.env := by rfl) : PDm X e (mcallG mf i m) := (h _ (pa_cons hv ha hs)).imp fun σ H Q ⟨F0, H0, F, ρ, d, ρ', rl, e, q⟩ => by
  unfold mcallG at e
  split at e
  · rename_i r00 h0
    obtain ⟨p, xs, a1, a2, a3, a4, a5⟩ := rl.own i r00 h0
    split at e
    · rename_i ds ρ1 h1
      split at e
      · rename_i r0 h2
        split at e
        · rename_i t r1 h3
          split at e
          · rename_i d' h4
            cases e
            have h3 := anyP_some h3
            refine ⟨_, a1, F0, H0, F, ρ, ds, ρ1, rl, h1, fun vs F1 H1 rl1 s1 rv => ?_⟩
            obtain ⟨p', ys, b1, b2, b3, b4, b5⟩ := rl1.own i r0 h2
            rw [a1] at b1; cases b1
            show spG X.K n mf ((.ref p :: vs) ++ []) H1 Q E
            rw [List.append_nil]
            refine ⟨by rw [List.length_cons, rv.length, hm ρ ds ρ1 h1, hl], p, vs, F1, r0, ds, t, r1, ys, rfl, b3, b2, rl1.fh, b4, rv, h3 p, ?_⟩
            cases t with
            | sh g =>
              cases h4
              exact fun v F' H' zs x rg f1 g1 rz => q v F' H' (rl1.lent h2 a1 x f1 g1 rz) (s1.trans x.ff) rg
            | fr gs =>
              cases h4
              intro w zs F' H' us x hw fw hw' rw' f1 g1 rz
              have hne : w ≠ p := fun z => by rw [z, b3] at hw; cases hw
              have rl2 := rl1.lent h2 a1 x f1 g1 rz
              have fz : Ext F' H' (upd F' w (.lst zs)) H' → True := fun _ => True.intro
              have x2 : Ext F1 (del H1 p) (upd F' w (.lst zs)) H' := x.freeze fw (by rw [del_ne hne]; exact hw) hw'
              have s2 : Same F' (upd F' w (.lst zs)) := (Same.refl F').put fw
              exact q _ (upd F' w (.lst zs)) H' (rl1.lent h2 a1 x2 (by rw [upd_ne (Ne.symm hne)]; exact f1) g1 (rz.mono s2)) (s1.trans x2.ff) (.lst (SqL.of upd_same) (rw'.mono s2))
            | pr _ _ => cases h4
          · cases e
        · cases e
      · cases e
    · cases e
  · rename_i p00 r00 h0
    obtain ⟨a1, a2, a5, xs, a3, a4⟩ := rl.ob i p00 r00 h0
    split at e
    · rename_i ds ρ1 h1
      split at e
      · rename_i p r0 h2
        split at e
        · rename_i t r1 h3
          split at e
          · rename_i d' h4
            cases e
            refine ⟨_, a1, F0, H0, F, ρ, ds, ρ1, rl, h1, fun vs F1 H1 rl1 s1 rv => ?_⟩
            obtain ⟨b1, b2, b5, ys, b3, b4⟩ := rl1.ob i p r0 h2
            rw [a1] at b1; cases b1
            show spG X.K n mf ((.ref p00 :: vs) ++ []) H1 Q E
            rw [List.append_nil]
            refine ⟨by rw [List.length_cons, rv.length, hm ρ ds ρ1 h1, hl], p00, vs, F1, r0, ds, t, r1, ys, rfl, b3, b2, rl1.fh, b4, rv, h3, ?_⟩
            cases t with
            | sh g =>
              cases h4
              exact fun v F' H' zs x rg f1 g1 rz => q v F' H' (rl1.lentB h2 x f1 g1 rz) (s1.trans x.ff) rg
            | fr gs =>
              cases h4
              intro w zs F' H' us x hw fw hw' rw' f1 g1 rz
              have hne : w ≠ p00 := fun z => by rw [z, b3] at hw; cases hw
              have x2 : Ext F1 (del H1 p00) (upd F' w (.lst zs)) H' := x.freeze fw (by rw [del_ne hne]; exact hw) hw'
              have s2 : Same F' (upd F' w (.lst zs)) := (Same.refl F').put fw
              exact q _ (upd F' w (.lst zs)) H' (rl1.lentB h2 x2 (by rw [upd_ne (Ne.symm hne)]; exact f1) g1 (rz.mono s2)) (s1.trans x2.ff) (.lst (SqL.of upd_same) (rw'.mono s2))
            | pr _ _ => cases h4
          · cases e
        · cases e
      · cases e
    · cases e
  · cases e
end
end L2

set_option Elab.async false
set_option linter.all false
set_option maxRecDepth 100000
namespace L2
open PySem PySem.Spec PyProof.Rows
section
variable {X : Cx} {a b c e : Expr} {ma mb : ME} {pos : Pos}
end
def noL : D → Bool
  | .tup ds => ds.all isSc
  | d => isSc d
@[irreducible] def mborT (i : Nat) (m : ME) : ME := fun ρ => match ρ[i]? with
  | some (some (.own ds)) => (match m (ρ.set i (some (.sh (.lst ds)))) with | some d => if noL d = true then some d else none | none => none)
  | _ => m ρ
theorem scs_rep {K : PySem.W.Frag} {F G : Hp} : ∀ {vs : List V} {ds : List D}, ds.all isSc = true → Reps K F vs ds → Reps K G vs ds
  | _, _, _, .nil => .nil
  | _, _, h, .cons r t => by
    rw [List.all_cons, Bool.and_eq_true] at h
    exact .cons (sc_rep h.1 r) (scs_rep h.2 t)
theorem noL_rep {K : PySem.W.Frag} {F : Hp} {p : Addr} {xs : List V} {v : V} {d : D} (hp : F p = some (.lst xs)) (h : noL d = true) (r : Rep K F v d) : Rep K (fun b => if b = p then none else F b) v d := by
  cases r with
  | non => exact .non
  | bl b => exact .bl b
  | int i => exact .int i
  | str x => exact .str x
  | lst _ _ => cases h
  | tup sq rs =>
    rename_i a ys ds
    refine .tup ?_ (scs_rep h rs)
    rcases sq with (sq | ⟨o, sq⟩) | sq
    · have hne : a ≠ p := fun z => by rw [z, hp] at sq; cases sq
      exact .inl (.inl (by show (if a = p then none else F a) = _; rw [if_neg hne]; exact sq))
    · have hne : a ≠ p := fun z => by rw [z, hp] at sq; cases sq
      exact .inl (.inr ⟨o, by show (if a = p then none else F a) = _; rw [if_neg hne]; exact sq⟩)
    · exact .inr sq
theorem pd_borT {X : Cx} {e : Expr} {m : ME} (i : Nat) (h : PD X e m) : PD X e (mborT i m) := h.imp fun σ H Q ⟨F0, H0, F, ρ, d, rl, e, q⟩ => by
  unfold mborT at e
  split at e
  · rename_i ds h1
    obtain ⟨p, xs, hp, rl'⟩ := rl.freezeP h1
    split at e
    · rename_i d' h2
      split at e
      · rename_i hs
        cases e
        refine ⟨F0, H0, _, _, d, rl', h2, fun v F2 H2 x2 r2 => ?_⟩
        have hp2 : F2 p = some (.lst xs) := x2.ff _ _ upd_same
        refine q v (fun b => if b = p then none else F2 b) H2 ⟨fun b o hb => ?_, x2.hh, fun b o hb => ?_, fun b hb hn => ?_, fun b o u z => by
          have z : (if b = p then none else F2 b) = some (.frz o u) := z
          split at z
          · cases z
          · rename_i hne
            have := x2.nf b o u z
            rwa [upd_ne hne] at this⟩ (noL_rep hp2 hs r2)
        · have hne : b ≠ p := fun w => by rw [w, hp] at hb; cases hb
          show (if b = p then none else F2 b) = some o
          rw [if_neg hne]
          exact x2.ff b o (by rw [upd_ne hne]; exact hb)
        · have hb : (if b = p then none else F2 b) = some o := hb
          split at hb
          · cases hb
          · exact x2.fh b o hb
        · have hn : (if b = p then none else F2 b) ≠ none := hn
          split at hn
          · exact absurd rfl hn
          · rename_i hne
            exact x2.new b (by rw [upd_ne hne]; exact hb) hn
      · cases e
    · cases e
  · exact ⟨F0, H0, F, ρ, d, rl, e, q⟩
end L2

set_option Elab.async false
set_option linter.all false
set_option maxRecDepth 100000
namespace L2
open PySem PySem.Spec PyProof.Rows
def LtAt (A : Around) (s : Shared) (v u : Value) (k : Bool) : Prop := ∀ (prog : Program) (w : World) (E : Value → Shared → Prop) (Q : Value → Shared → Prop), Q (.bool k) s → wpAny (model prog w) A (richCompare .Lt v u) Q E s
def LexAt (A : Around) (s : Shared) : List Value → List Value → Bool → Prop
  | [], [], k => k = false
  | [], _ :: _, k => k = true
  | _ :: _, [], k => k = false
  | y :: ys, x :: xs, k => ∃ e, SeqAt.EqAt A s y x e ∧ ((e = true ∧ LexAt A s ys xs k) ∨ (e = false ∧ LtAt A s y x k))
section
open PySem.SeqAt
open PySem.AutoSeq1 (wpAny_loadPart')
open PySem.MeetsSeq PySem.MeetsSeq2 PySem.MeetsSeq3
set_option maxHeartbeats 4000000 in
theorem tup_lt (l b : Addr) (items items2 : Array Value) (n n2 : Nat) (dd dd2 : Option Addr) (sl sl2 : Array (Option Value)) (k : Bool) :
    Meets (Builtin.«tuple.__lt__» ⟨[.ref l, .ref b], []⟩)
      (fun A R s => s.heap.get? l = some { cls := .type "tuple", dict := dd, data := .seq items n, slots := sl } ∧ s.heap.get? b = some { cls := .type "tuple", dict := dd2, data := .seq items2 n2, slots := sl2 } ∧
        LexAt A.in1 s items.toList items2.toList k ∧ R (.ok (.ret (.bool k))) s) :=
  .of_wp fun prog w A R s h => by
    obtain ⟨hp, g, d, tk, os⟩ := s; obtain ⟨hl, hb, hx, h⟩ := h
    have f2 := AutoSeq1.sub_tuple_tuple
    wp_walk using wpAny_loadPart' hl, wpAny_loadPart' hb, wpAny_forIn_list _ (fun rest b s' => b.1 = none ∧ s' = ⟨hp, g, d, tk, os⟩ ∧ ∃ (vs ws : List Value), rest = vs.zip ws ∧
      vs.length + items2.size = ws.length + items.size ∧ LexAt A.in1 ⟨hp, g, d, tk, os⟩ vs ws k) _
    case turn =>
      rintro ⟨y, x⟩ rest b s' ⟨hb', rfl, vs, ws, hz, hlen, hL⟩
      cases vs with
      | nil => rw [List.zip_nil_left] at hz; cases hz
      | cons a vs =>
        cases ws with
        | nil => rw [List.zip_nil_right] at hz; cases hz
        | cons c ws =>
          rw [List.zip_cons_cons] at hz
          injection hz with hyx hrest
          injection hyx with hy hx'
          subst hy hx'
          simp only [List.length_cons] at hlen
          obtain ⟨e, he, hL⟩ := hL
          refine wpAny_bind (he prog w _ _ ?_)
          rcases hL with ⟨rfl, hL⟩ | ⟨rfl, hL⟩
          · wp_walk
            exact ⟨rfl, rfl, vs, ws, hrest, by omega, hL⟩
          · have hri := hL prog w
            wp_walk using hri
            exact ⟨_, rfl, by simpa using h⟩
    case fin =>
      rintro ⟨b1, b2⟩ s' ⟨hb', rfl, vs, ws, hz, hlen, hL⟩
      simp only at hb'
      subst hb'
      have hv : k = decide (items.size < items2.size) := by
        cases vs with
        | nil =>
          cases ws with
          | nil =>
            simp only [List.length_nil] at hlen
            rw [show k = false from hL]
            exact (decide_eq_false (by omega)).symm
          | cons c ws =>
            simp only [List.length_nil, List.length_cons] at hlen
            rw [show k = true from hL]
            exact (decide_eq_true (by omega)).symm
        | cons a vs =>
          cases ws with
          | nil =>
            simp only [List.length_nil, List.length_cons] at hlen
            rw [show k = false from hL]
            exact (decide_eq_false (by omega)).symm
          | cons c ws =>
            rw [List.zip_cons_cons] at hz
            cases hz
      rw [hv] at h
      wp_walk
      exact ⟨_, rfl, by simpa [Builtin.Tuple.tupleCompareSizes] using h⟩
    case h =>
      exact ⟨rfl, rfl, items.toList, items2.toList, rfl, by simp; omega, hx⟩
set_option maxHeartbeats 4000000 in
theorem lst_lt_loop (l b : Addr) (items items2 : Array Value) (n n2 : Nat) (dd dd2 : Option Addr) (sl sl2 : Array (Option Value)) (r : Bool) (k : Nat) :
    ∀ i : Nat, items.size - i = k → i ≤ items.size → i ≤ items2.size → Meets (Builtin.«list.__eq__.loop» ⟨[.ref l, .ref b, rawInt i, rawInt 0], []⟩)
      (fun A R s => s.heap.get? l = some { cls := .type "list", dict := dd, data := .seq items n, slots := sl } ∧ s.heap.get? b = some { cls := .type "list", dict := dd2, data := .seq items2 n2, slots := sl2 } ∧
        LexAt A.in1 s (items.toList.drop i) (items2.toList.drop i) r ∧ R (.ok (.ret (.bool r))) s) := by
  induction k with
  | zero =>
    intro i hk h1 h2 prog w A R s h
    obtain ⟨hp, g, d, tk, os⟩ := s; obtain ⟨hl, hb, hx, h⟩ := h
    wp_walk using wpAny_loadPart' hl, wpAny_loadPart' hb
    have hi1 : items[((i : Nat) : Int).toNat]? = none := by simp; omega
    have e1 : items.toList.drop i = [] := List.drop_eq_nil_of_le (by simp; omega)
    rw [e1] at hx
    have hr : r = decide (items.size < items2.size) := by
      cases e2 : items2.toList.drop i with
      | nil =>
        rw [e2] at hx
        have : items2.size ≤ i := by simpa using e2
        rw [show r = false from hx]
        exact (decide_eq_false (by omega)).symm
      | cons c ws =>
        rw [e2] at hx
        have : i < items2.size := by
          rcases Nat.lt_or_ge i items2.size with z | z
          · exact z
          · rw [List.drop_eq_nil_of_le (by simpa using z)] at e2; cases e2
        rw [show r = true from hx]
        exact (decide_eq_true (by omega)).symm
    rw [hi1]
    wp_walk using wpAny_loadPart' hl, wpAny_loadPart' hb
    rw [hr] at h
    exact h
  | succ k ih =>
    intro i hk h1 h2 prog w A R s h
    obtain ⟨hp, g, d, tk, os⟩ := s; obtain ⟨hl, hb, hx, h⟩ := h
    have hlt : i < items.size := by omega
    have hi1 : items[((i : Nat) : Int).toNat]? = some items[i] := by simp [hlt]
    have e1 : items.toList.drop i = items[i] :: items.toList.drop (i + 1) := by rw [List.drop_eq_getElem_cons (by simpa using hlt)]; simp
    have hc : ((i : Int) + 1) = ((i + 1 : Nat) : Int) := by push_cast; rfl
    rw [e1] at hx
    by_cases hlt2 : i < items2.size
    · have hi2 : items2[((i : Nat) : Int).toNat]? = some items2[i] := by simp [hlt2]
      have e2 : items2.toList.drop i = items2[i] :: items2.toList.drop (i + 1) := by rw [List.drop_eq_getElem_cons (by simpa using hlt2)]; simp
      rw [e2] at hx
      obtain ⟨e, he, hx⟩ := hx
      wp_walk using wpAny_loadPart' hl, wpAny_loadPart' hb
      rw [hi1, hi2]
      refine wpAny_bind (he prog w _ _ ?_)
      rcases hx with ⟨rfl, hx⟩ | ⟨rfl, hx⟩
      · wp_walk
        rw [hc]
        exact ⟨plainId_quiet plain_eq_loop _, codeAny_builtin entry_eq_loop (by
          rw [Around.under_plainId plain_eq_loop _]
          exact ih (i + 1) (by omega) (by omega) (by omega) prog w A R _ ⟨hl, hb, hx, h⟩)⟩
      · have hri := hx prog w
        wp_walk using wpAny_loadPart' hl, wpAny_loadPart' hb
        rw [hi1, hi2]
        wp_walk using hri
        exact h
    · have hi2 : items2[((i : Nat) : Int).toNat]? = none := by simp; omega
      have e2 : items2.toList.drop i = [] := List.drop_eq_nil_of_le (by simp; omega)
      rw [e2] at hx
      have hr : r = decide (items.size < items2.size) := by
        rw [show r = false from hx]
        exact (decide_eq_false (by omega)).symm
      wp_walk using wpAny_loadPart' hl, wpAny_loadPart' hb
      rw [hi1, hi2]
      wp_walk using wpAny_loadPart' hl, wpAny_loadPart' hb
      rw [hr] at h
      exact h
set_option maxHeartbeats 4000000 in
theorem lst_lt (l b : Addr) (items items2 : Array Value) (n n2 : Nat) (dd dd2 : Option Addr) (sl sl2 : Array (Option Value)) (r : Bool) :
    Meets (Builtin.«list.__lt__» ⟨[.ref l, .ref b], []⟩)
      (fun A R s => s.heap.get? l = some { cls := .type "list", dict := dd, data := .seq items n, slots := sl } ∧ s.heap.get? b = some { cls := .type "list", dict := dd2, data := .seq items2 n2, slots := sl2 } ∧
        LexAt A.in1 s items.toList items2.toList r ∧ R (.ok (.ret (.bool r))) s) := by
  intro prog w A R s h
  obtain ⟨hp, g, d, tk, os⟩ := s; obtain ⟨hl, hb, hx, h⟩ := h
  have f3 := AutoSeq1.sub_list_list
  wp_walk using wpAny_loadPart' hl, wpAny_loadPart' hb
  exact ⟨plainId_quiet plain_eq_loop _, codeAny_builtin entry_eq_loop (by
    rw [Around.under_plainId plain_eq_loop _]
    exact lst_lt_loop l b items items2 n n2 dd dd2 sl sl2 r _ 0 rfl (Nat.zero_le _) (Nat.zero_le _) prog w A R _ ⟨hl, hb, by simpa using hx, h⟩)⟩
end
def lexF (eq lt : D → D → Option Bool) : List D → List D → Option Bool
  | [], [] => some false
  | [], _ :: _ => some true
  | _ :: _, [] => some false
  | d :: ds, e :: es => match eq d e with
    | some true => lexF eq lt ds es
    | some false => lt d e
    | none => none
def ltF : Nat → D → D → Option Bool
  | 0, _, _ => none
  | n + 1, .lst ds, .lst es => lexF (eqF n) (ltF n) ds es
  | n + 1, .tup ds, .tup es => lexF (eqF n) (ltF n) ds es
  | _ + 1, .int i, .int j => some (decide (i < j))
  | _ + 1, _, _ => none
section
variable {X : Cx} {pins : List (Addr × Obj)} {σ : St} {H : Hp} {s : Shared}
theorem lex_at (I : Inv X pins σ H s) (n : Nat) {A : Around} (hu : A.units + n < cLine) (ih : ∀ {x y : V} {v u : Value} {d e : D} {k : Bool}, Rep X.K H x d → Rep X.K H y e → RelV x v → RelV y u → ltF n d e = some k → LtAt A s v u k) :
    ∀ {xs ys : List V} {vs us : List Value} {ds es : List D} {k : Bool}, Reps X.K H xs ds → Reps X.K H ys es → Vals xs vs → Vals ys us → lexF (eqF n) (ltF n) ds es = some k → LexAt A s vs us k
  | _, _, _, _, _, _, k, .nil, .nil, .nil, .nil, h => by cases h; exact rfl
  | _, _, _, _, _, _, k, .nil, .cons _ _, .nil, .cons _ _, h => by cases h; exact rfl
  | _, _, _, _, _, _, k, .cons _ _, .nil, .cons _ _, .nil, h => by cases h; exact rfl
  | _, _, _, _, _, _, k, .cons (d := d) r1 t1, .cons (d := e) r2 t2, .cons q1 p1, .cons q2 p2, h => by
    unfold lexF at h
    cases hq : eqF n d e with
    | none => rw [hq] at h; cases h
    | some b =>
      rw [hq] at h
      refine ⟨b, (eq_at I n hu r1 r2 q1 q2 hq).1, ?_⟩
      cases b with
      | true => exact .inl ⟨rfl, lex_at I n hu ih t1 t2 p1 p2 h⟩
      | false => exact .inr ⟨rfl, ih r1 r2 q1 q2 h⟩
theorem lt_at (I : Inv X pins σ H s) : ∀ (n : Nat) {A : Around} {x y : V} {v u : Value} {d e : D} {k : Bool}, A.units + n < cLine → Rep X.K H x d → Rep X.K H y e → RelV x v → RelV y u → ltF n d e = some k → LtAt A s v u k
  | 0, A, x, y, v, u, d, e, k, hu, r1, r2, q1, q2, h => by simp [ltF] at h
  | n + 1, A, x, y, v, u, d, e, k, hu, r1, r2, q1, q2, h => by
    have hu0 : A.units < cLine := by omega
    have hu1 : A.in1.units + n < cLine := by show A.units + 1 + n < cLine; omega
    cases r1 with
    | int i =>
      cases r2 with
      | int j =>
        obtain ⟨t, rfl⟩ := q1
        obtain ⟨t', rfl⟩ := q2
        cases h
        exact fun prog w E Q hQ => HT.rcLt_int A s i t j t' prog w E Q hQ
      | _ => cases h
    | lst sq rs =>
      cases r2 with
      | lst sq2 rs2 =>
        cases q1; cases q2
        obtain ⟨its, vr, ⟨⟨cls, dd, data, sl⟩, m, ho, hc, hdd, hd⟩, _⟩ := I.list sq
        obtain ⟨its2, vr2, ⟨⟨cls2, dd2, data2, sl2⟩, m2, ho2, hc2, hdd2, hd2⟩, _⟩ := I.list sq2
        simp only at hc hd hc2 hd2
        subst hc hd hc2 hd2
        have L := lex_at I n hu1 (fun a b c d e => lt_at I n hu1 a b c d e) rs rs2 vr vr2 (show lexF (eqF n) (ltF n) _ _ = some k from h)
        intro prog w E Q hQ
        exact richCompare_meets_room (op := .Lt) ⟨_, ho, rfl⟩ ⟨_, ho2, rfl⟩ PySem.F.slot_list_lt PySem.F.entry_list_lt (PySem.F.args_list_lt_2 _ _) (lst_lt _ _ its.toArray its2.toArray m m2 dd dd2 sl sl2 k)
          ⟨ho, ho2, by simpa using L, show Value.bool k ≠ Value.notImplemented ∧ Q (.bool k) s from ⟨(fun x => nomatch x), hQ⟩⟩ hu0
      | _ => cases h
    | tup sq rs =>
      cases r2 with
      | tup sq2 rs2 =>
        cases q1; cases q2
        obtain ⟨its, vr, ⟨⟨cls, dd, data, sl⟩, ho, hc, m, hd⟩, _⟩ := I.tuple sq
        obtain ⟨its2, vr2, ⟨⟨cls2, dd2, data2, sl2⟩, ho2, hc2, m2, hd2⟩, _⟩ := I.tuple sq2
        simp only at hc hd hc2 hd2
        subst hc hd hc2 hd2
        have L := lex_at I n hu1 (fun a b c d e => lt_at I n hu1 a b c d e) rs rs2 vr vr2 (show lexF (eqF n) (ltF n) _ _ = some k from h)
        intro prog w E Q hQ
        exact richCompare_meets_room (op := .Lt) ⟨_, ho, rfl⟩ ⟨_, ho2, rfl⟩ PySem.F.slot_tuple_lt PySem.F.entry_tuple_lt (PySem.F.args_tuple_lt_2 _ _) (tup_lt _ _ its.toArray its2.toArray m m2 dd dd2 sl sl2 k)
          ⟨ho, ho2, by simpa using L, show Value.bool k ≠ Value.notImplemented ∧ Q (.bool k) s from ⟨(fun x => nomatch x), hQ⟩⟩ hu0
      | _ => cases h
    | _ => cases r2 <;> cases h
end
end L2

set_option Elab.async false
set_option linter.all false
set_option maxRecDepth 100000
namespace L2
open PySem PySem.Spec PyProof.Rows
def KeyAt (X : Cx) (kv : Value) (mk : D → Option D) : Prop := ∀ (pins : List (Addr × Obj)) (σ : St) (H F : Hp) (s : Shared) (x : V) (u : Value) (d kd : D), Inv X pins σ H s → Same F H → Rep X.K F x d → RelV x u → mk d = some kd →
  wpAny (model X.prog X.w) X.A.in1 (call kv [u]) (fun w s' => ∃ y F' H', Inv X pins σ H' s' ∧ RelV y w ∧ Ext F H F' H' ∧ Rep X.K F' y kd) (fun _ _ => False) s
def shOf : Option Rt → Option D
  | some (.sh d) => some d
  | some (.fr es) => some (.lst es)
  | _ => none
theorem keyAt_fn {X : Cx} {k : Nat} {f : Addr} {fd : FuncData} {p : Str} {m : MF} (F : FnOk X.prog X.w X.K X.mg X.base CX0 k f fd [p] (spR X.K 1 m)) (hr : Room k X.A.in1) (hb : Binds X.K fd [p] []) : KeyAt X (.ref f) (fun d => shOf (m [d])) := by
  intro pins σ H Fh s x u d kd I sf r rx hm
  have hm : shOf (m [d]) = some kd := hm
  have sp : spR X.K 1 m [x] H (fun v H' => ∃ F', Ext Fh H F' H' ∧ Rep X.K F' v kd) E0 := by
    cases h : m [d] with
    | none => rw [h] at hm; cases hm
    | some t =>
      rw [h] at hm
      cases t with
      | sh g => cases hm; exact ⟨rfl, Fh, [d], _, sf, .cons r .nil, h, fun v F' H' x' r' => ⟨F', x', r'⟩⟩
      | fr gs => cases hm; exact ⟨rfl, Fh, [d], _, sf, .cons r .nil, h, fun q xs F' H' x' hp hF hH rs => ⟨upd F' q (.lst xs), x'.freeze hF hp hH, .lst (SqL.of upd_same) (rs.mono ((Same.refl F').put hF))⟩⟩
      | pr _ _ => cases hm
  have e0 := I.env0
  have env : Env0 X.prog X.w X.K X.mg X.base X.A.in1 X.stack s H := ⟨e0.frames, e0.mod, e0.bs, e0.bsz, e0.funs, e0.frf, e0.hok, e0.bare⟩
  refine wpAny_call (codeAny_mono (F.run X.A.in1 X.stack s H ⟨[u], []⟩ [u] [x] _ E0 hr env (hb s [u] I.kIn rfl) (.cons rx .nil) sp) fun r s' hq => ?_)
  cases r with
  | error e => exact hq.elim
  | ok fl =>
    cases fl with
    | ret v =>
      obtain ⟨y, H', I', ry, F', x', r'⟩ := I.after hq
      exact ⟨y, F', H', I', ry, x', r'⟩
    | next => exact hq.elim
    | brk => exact hq.elim
    | cont => exact hq.elim
def minF (mk : D → Option D) : List D → D → D → Option D
  | [], b, _ => some b
  | d :: ds, b, kb => match mk d with
    | some kd => (match ltF 8 kd kb with | some true => minF mk ds d kd | some false => minF mk ds b kb | none => none)
    | none => none
section
variable {X : Cx} {pins : List (Addr × Obj)} {σ : St}
theorem FpOk.now {H H' : Hp} {b : Addr} (h : FpOk X pins H b) (hn : H' b = none) : FpOk X pins H' b := ⟨hn, h.2⟩
theorem Inv.pin2 {H : Hp} {s : Shared} {a b : Addr} {oa ob : Obj} (I : Inv X pins σ H s) (ha : FpOk X pins H a) (hb : FpOk X pins H b) (ea : s.heap.get? a = some oa) (eb : s.heap.get? b = some ob) (da : ∀ v, oa.data ≠ .cell v) (db : ∀ v, ob.data ≠ .cell v) : Inv X (pins ++ [(a, oa), (b, ob)]) σ H s :=
  I.pins_of fun p hp => by
    rcases List.mem_append.mp hp with hp | hp
    · exact I.pin p (List.mem_append_right _ hp)
    · simp only [List.mem_cons, List.not_mem_nil, or_false] at hp
      rcases hp with rfl | rfl
      · exact ⟨ea, ha.1, ha.2.1, ha.2.2.1, da⟩
      · exact ⟨eb, hb.1, hb.2.1, hb.2.2.1, db⟩
set_option maxHeartbeats 8000000 in
theorem min_loop {q : Addr} {mk : D → Option D} (hk : KeyAt X (.ref q) mk) (hc : X.calm = true) (hu : X.A.units + 64 < cLine) {l I S : Addr} {xs : List V} {ds : List D} {kw : List (Str × Value)} {dm : D} (hIS : I ≠ S) (hlI : l ≠ I) (hlS : l ≠ S) :
    ∀ (r j : Nat) (H F H0 F0 : Hp) (s : Shared) (xb yb : V) (vb kb : Value) (db kdb : D) (c : Nat) (R : Result → Shared → Prop),
      ds.length - (j + 1) = r → j + 1 ≤ ds.length → Inv X pins σ H s → Ext F0 H0 F H → SqL X.K H l xs → Reps X.K F xs ds → s.heap.IsListIter I l (j + 1) → s.heap.get? S = some (seqObj "list" #[vb, kb] c) → FpOk X pins H I → FpOk X pins H S →
      RelV xb vb → Rep X.K F xb db → RelV yb kb → Rep X.K F yb kdb → minF mk (ds.drop (j + 1)) db kdb = some dm →
      (∀ x v F' H' s', Inv X pins σ H' s' → RelV x v → Ext F0 H0 F' H' → Rep X.K F' x dm → R (.ok (.ret v)) s') →
      codeAny (model X.prog X.w) X.A (.builtin "min.loop" ⟨[.ref I, .ref q, .ref S], kw⟩) R s := by
  have hname : (toString "min" ++ toString ".loop" : String) = "min.loop" := by decide
  intro r
  induction r with
  | zero =>
    intro j H F H0 F0 s xb yb vb kb db kdb c R hr hj I' ext sq rs hit hS fI fS rb pb ry py hm hR
    have hin : j + 1 = ds.length := by omega
    obtain ⟨its, vr, pl, _⟩ := I'.list sq
    have zl : its.length = ds.length := by rw [← vr.length, rs.length]
    rw [hin, List.drop_length] at hm
    have hm : some db = some dm := hm
    cases hm
    refine codeAny_builtin PySem.F.entry_min_loop ?_
    rw [Around.under_plainId PySem.F.plain_min_loop _]
    show wpAny _ X.A.in1 (seqItems? (.ref S) >>= _) _ _ _
    refine wpAny_bind (wpAny_seqItems hS rfl ?_)
    show wpAny _ X.A.in1 (tryCatch (pyNext (.ref I)) _ >>= _) _ _ _
    refine wpAny_bind (wpAny_tryCatch (wpAny_pyNext_list_end (I'.ok.hd hc) hit pl.isList (by simp; omega) fun h' hk' => ?_))
    have hS' : h'.get? S = some (seqObj "list" #[vb, kb] c) := hk' S _ (Ne.symm hIS) hS
    have s1 := Heap.SameBut.update h' S (Obj.mapSeq fun _ => (#[] : Array Value))
    show wpAny _ X.A.in1 (updateSeq S (fun _ => #[]) >>= _) _ _ _
    refine wpAny_bind ?_
    refine wpAny_updateSeq hS' rfl (wpAny_bind (wpAny_letGo (wpAny_pure ?_)))
    have I9 : Inv X pins σ H { s with heap := h'.update S (Obj.mapSeq fun _ => (#[] : Array Value)), toks := s.toks } := I'.turnedL (fp := [I, S]) (t' := s.toks) (fun b o hb e => by
      simp only [List.mem_cons, List.not_mem_nil, or_false, not_or] at hb
      exact (s1.2 b hb.2).trans (hk' b o hb.1 e)) (fun b hb => by
      simp only [List.mem_cons, List.not_mem_nil, or_false] at hb
      rcases hb with rfl | rfl <;> assumption)
    exact hR xb vb F H _ I9 rb ext pb
  | succ r ih =>
    intro j H F H0 F0 s xb yb vb kb db kdb c R hr hj I' ext sq rs hit hS fI fS rb pb ry py hm hR
    have hlt : j + 1 < ds.length := by omega
    obtain ⟨its, vr, pl, _⟩ := I'.list sq
    have zl : its.length = ds.length := by rw [← vr.length, rs.length]
    obtain ⟨d, hd⟩ : ∃ d, ds[j + 1]? = some d := ⟨_, List.getElem?_eq_getElem hlt⟩
    obtain ⟨x, hx, px⟩ := rs.get hd
    obtain ⟨v, hv, rx⟩ := vr.get hx
    rw [drop_get hd] at hm
    unfold minF at hm
    cases hkd : mk d with
    | none => rw [hkd] at hm; cases hm
    | some kd =>
      rw [hkd] at hm
      dsimp only at hm
      refine codeAny_builtin PySem.F.entry_min_loop ?_
      rw [Around.under_plainId PySem.F.plain_min_loop _]
      show wpAny _ X.A.in1 (seqItems? (.ref S) >>= _) _ _ _
      refine wpAny_bind (wpAny_seqItems hS rfl ?_)
      show wpAny _ X.A.in1 (tryCatch (pyNext (.ref I)) _ >>= _) _ _ _
      refine wpAny_bind (wpAny_tryCatch (wpAny_pyNext_list_item hit pl.isList (by simpa using hv) fun h1 hit1 s1 => ?_))
      have I1 : Inv X pins σ H { s with heap := h1, toks := s.toks } := I'.turnedL (fp := [I]) (fun b o hb e => s1.extBut b o (by simpa using hb) e) (fun b hb => by rw [List.mem_singleton.mp hb]; exact fI)
      have hS1 : h1.get? S = some (seqObj "list" #[vb, kb] c) := s1.extBut _ _ (Ne.symm hIS) hS
      obtain ⟨oI, eI, cI, dI⟩ := id hit1
      have Ip := I1.pin2 fI fS eI hS1 (fun v z => by rw [dI] at z; cases z) (fun v z => by cases z)
      show wpAny _ X.A.in1 (tryCatch (holding [v] (call (.ref q) [v])) _ >>= _) _ _ _
      refine wpAny_bind (wpAny_tryCatch (wpAny_holding (wpAny_mono (hk (pins ++ [(I, oI), (S, seqObj "list" #[vb, kb] c)]) σ H F _ x v d kd Ip ext.fh px rx hkd) (fun w s2 hw => ?_) fun _ _ z => z.elim)))
      obtain ⟨y, F2, H2, I2, rw2, x2, py2⟩ := hw
      have pI := I2.pin (I, oI) (by simp)
      have pS := I2.pin (S, seqObj "list" #[vb, kb] c) (by simp)
      have I2' : Inv X pins σ H2 s2 := I2.unpinned
      have fI2 : FpOk X pins H2 I := fI.now pI.2.1
      have fS2 : FpOk X pins H2 S := fS.now pS.2.1
      have hit2 : s2.heap.IsListIter I l (j + 1 + 1) := ⟨oI, pI.1, cI, dI⟩
      cases hlt8 : ltF 8 kd kdb with
      | none => rw [hlt8] at hm; cases hm
      | some bt =>
        rw [hlt8] at hm
        have hcmp := lt_at I2' 8 (A := X.A.in1) (by show X.A.units + 1 + 8 < cLine; omega) (py2.mono x2.fh) ((py.mono x2.ff).mono x2.fh) rw2 ry hlt8
        show wpAny _ X.A.in1 (tryCatch (holding [v, w] (richCompare .Lt w kb >>= _)) _ >>= _) _ _ _
        refine wpAny_bind (wpAny_tryCatch (wpAny_holding (wpAny_bind (hcmp X.prog X.w _ _ ?_))))
        refine wpAny_bind (wpAny_holding (wpAny_truthy_bool ?_))
        refine wpAny_bind (wpAny_letGo (wpAny_pure ?_))
        cases bt with
        | true =>
          have s3 := Heap.SameBut.update s2.heap S (Obj.mapSeq fun _ => #[v, w])
          obtain ⟨c2, hc2⟩ : ∃ c2, (s2.heap.update S (Obj.mapSeq fun _ => #[v, w])).get? S = some (seqObj "list" #[v, w] c2) := ⟨_, get?_update_seq pS.1 fun _ => #[v, w]⟩
          simp only [if_true]
          refine wpAny_bind ?_
          refine wpAny_updateSeq pS.1 rfl (wpAny_bind (wpAny_letGo ?_))
          rw [hname]
          have I3 : Inv X pins σ H2 { s2 with heap := s2.heap.update S (Obj.mapSeq fun _ => #[v, w]), toks := s2.toks } := I2'.turnedL (fp := [S]) (fun b o hb e => (s3.2 b (by simpa using hb)).trans e) (fun b hb => by rw [List.mem_singleton.mp hb]; exact fS2)
          refine wpAny_pure ⟨plainId_quiet PySem.F.plain_min_loop _, ih (j + 1) H2 F2 H0 F0 _ x y v w d kd c2 R (by omega) hlt I3 (ext.trans x2) (x2.hh.seq sq) (rs.mono x2.ff) ⟨oI, (s3.2 I hIS).trans pI.1, cI, dI⟩ hc2 fI2 fS2 rx (px.mono x2.ff) rw2 py2 hm hR⟩
        | false =>
          simp only [Bool.false_eq_true, if_false]
          refine wpAny_bind (wpAny_letGo ?_)
          rw [hname]
          refine wpAny_pure ⟨plainId_quiet PySem.F.plain_min_loop _, ih (j + 1) H2 F2 H0 F0 _ xb yb vb kb db kdb c R (by omega) hlt I2' (ext.trans x2) (x2.hh.seq sq) (rs.mono x2.ff) hit2 pS.1 fI2 fS2 rb (pb.mono x2.ff) ry (py.mono x2.ff) hm hR⟩
end
end L2

set_option Elab.async false
set_option linter.all false
set_option maxRecDepth 100000
namespace L2
open PySem PySem.Spec PyProof.Rows
theorem args_min_kd (a v u : Value) : argsOk "min" ⟨[a], [(Str.ofString "key", v), (Str.ofString "default", u)]⟩ := by unfold argsOk; kernel_rfl
def minD (mk : D → Option D) (ds : List D) (d0 : D) : Option D := match ds with
  | [] => some d0
  | d :: ds => (match mk d with | some kd => minF mk ds d kd | none => none)
section
variable {X : Cx} {pins : List (Addr × Obj)} {σ : St}
set_option maxHeartbeats 8000000 in
theorem min_top {q : Addr} {mk : D → Option D} (hk : KeyAt X (.ref q) mk) (hc : X.calm = true) (hu : X.A.units + 64 < cLine) {l : Addr} {xs : List V} {ds : List D} {dm d0 : D} {H F : Hp} {s : Shared} {x0 : V} {v0 : Value} {E : Value → Shared → Prop} {Q : Value → Shared → Prop}
    (I : Inv X pins σ H s) (sf : Same F H) (sq : SqL X.K H l xs) (rs : Reps X.K F xs ds) (r0 : RelV x0 v0) (p0 : Rep X.K F x0 d0) (hm : minD mk ds d0 = some dm)
    (hQ : ∀ x v F' H' s', Inv X pins σ H' s' → RelV x v → Ext F H F' H' → Rep X.K F' x dm → Q v s') :
    wpAny (model X.prog X.w) X.A (call (.builtin "min") [.ref l] [(Str.ofString "key", .ref q), (Str.ofString "default", v0)]) Q E s := by
  have hname : (toString "min" ++ toString ".loop" : String) = "min.loop" := by decide
  obtain ⟨its, vr, pl, _⟩ := I.list sq
  have hls := pl.isList
  obtain ⟨ol, hol, _⟩ := id hls
  have hll : l < s.heap.objs.size := Heap.lt_size hol
  refine kmk_tree PySem.F.kind_min PySem.F.plain_min PySem.F.entry_min (args_min_kd _ _ _) ?_
  show wpAny _ X.A.in1 (Builtin.Builtins.bindParams "min" ["key", "default"] 0 ⟨[], [(Str.ofString "key", .ref q), (Str.ofString "default", v0)]⟩ >>= _) _ _ s
  refine wpAny_bind (wpAny_of_eq (show Builtin.Builtins.bindParams "min" ["key", "default"] 0 ⟨[], [(Str.ofString "key", .ref q), (Str.ofString "default", v0)]⟩ = pure [some (.ref q), some v0] from rfl) ?_)
  refine wpAny_bind (wpAny_pure ?_)
  refine wpAny_bind (wpAny_pyIter_list hls ?_)
  refine wpAny_bind (wpAny_newList ?_ (Nat.zero_le _))
  rw [hname]
  refine wpAny_pure ⟨plainId_quiet PySem.F.plain_min_loop _, ?_⟩
  generalize hIo : ({ cls := .type "list_iterator", data := .fields #[.ref l, .int 0 0] } : Obj) = oI0
  have hS : (s.heap.push oI0).objs.size = s.heap.objs.size + 1 := size_push' ..
  have hlI : l ≠ s.heap.objs.size := Nat.ne_of_lt hll
  have hlS : l ≠ (s.heap.push oI0).objs.size := by rw [hS]; exact Nat.ne_of_lt (Nat.lt_succ_of_lt hll)
  have hIS : s.heap.objs.size ≠ (s.heap.push oI0).objs.size := by rw [hS]; exact Nat.ne_of_lt (Nat.lt_succ_self _)
  have gI : ((s.heap.push oI0).push (seqObj "list" #[] 0)).get? s.heap.objs.size = some oI0 := Heap.get?_push_of_some _ (Heap.get?_push_size _ (by rw [← hIo]; rfl))
  have gS : ((s.heap.push oI0).push (seqObj "list" #[] 0)).get? (s.heap.push oI0).objs.size = some (seqObj "list" #[] 0) := Heap.get?_push_size _ rfl
  have fI : FpOk X pins H s.heap.objs.size := I.fpOk (Nat.le_refl _) (I.hok.fresh (Nat.le_refl _))
  have fS : FpOk X pins H (s.heap.push oI0).objs.size := I.fpOk (by rw [hS]; exact Nat.le_succ _) (I.hok.fresh (by rw [hS]; exact Nat.le_succ _))
  have I0 : Inv X pins σ H { s with heap := (s.heap.push oI0).push (seqObj "list" #[] 0), toks := s.toks } := I.turnedL (fp := []) (fun b o _ e => Heap.get?_push_of_some _ (Heap.get?_push_of_some _ e)) (fun b hb => by cases hb)
  generalize (s.heap.push oI0).objs.size = S at *
  generalize hI : s.heap.objs.size = J at *
  generalize (s.heap.push oI0).push (seqObj "list" #[] 0) = h0 at *
  have hit : h0.IsListIter J l 0 := ⟨_, gI, by rw [← hIo], by rw [← hIo]; rfl⟩
  have zl : its.length = ds.length := by rw [← vr.length, rs.length]
  obtain ⟨its', vr', pl', _⟩ := I0.list sq
  have zl' : its'.length = ds.length := by rw [← vr'.length, rs.length]
  refine codeAny_builtin PySem.F.entry_min_loop ?_
  rw [Around.under_plainId PySem.F.plain_min_loop _]
  show wpAny _ X.A.in1 (seqItems? (.ref S) >>= _) _ _ _
  refine wpAny_bind (wpAny_seqItems gS rfl ?_)
  show wpAny _ X.A.in1 (tryCatch (pyNext (.ref J)) _ >>= _) _ _ _
  cases ds with
  | nil =>
    have hm : some d0 = some dm := hm
    cases hm
    refine wpAny_bind (wpAny_tryCatch (wpAny_pyNext_list_end (I.ok.hd hc) hit pl'.isList (by simp at zl' ⊢; simp [zl']) fun h' hk' => ?_))
    refine wpAny_bind (wpAny_rule (wpAny_pure ?_))
    have I9 := I0.turnedL (h' := h') (fp := [J]) (t' := s.toks) (fun b o hb e => hk' b o (by simpa using hb) e) (fun b hb => by rw [List.mem_singleton.mp hb]; exact fI)
    exact hQ x0 v0 F H _ I9 r0 (Ext.refl sf) p0
  | cons d ds =>
    obtain ⟨x, hx, px⟩ := rs.get (i := 0) (d := d) rfl
    obtain ⟨v, hv, rx⟩ := vr'.get hx
    unfold minD at hm
    dsimp only at hm
    cases hkd : mk d with
    | none => rw [hkd] at hm; cases hm
    | some kd =>
      rw [hkd] at hm
      dsimp only at hm
      refine wpAny_bind (wpAny_tryCatch (wpAny_pyNext_list_item hit pl'.isList (by simpa using hv) fun h1 hit1 s1 => ?_))
      have I1 := I0.turnedL (h' := h1) (t' := s.toks) (fp := [J]) (fun b o hb e => s1.extBut b o (by simpa using hb) e) (fun b hb => by rw [List.mem_singleton.mp hb]; exact fI)
      have hS1 : h1.get? S = some (seqObj "list" #[] 0) := s1.extBut _ _ (Ne.symm hIS) gS
      obtain ⟨oI, eI, cI, dI⟩ := id hit1
      have Ip := I1.pin2 fI fS eI hS1 (fun v z => by rw [dI] at z; cases z) (fun v z => by cases z)
      show wpAny _ X.A.in1 (tryCatch (holding [v] (call (.ref q) [v])) _ >>= _) _ _ _
      refine wpAny_bind (wpAny_tryCatch (wpAny_holding (wpAny_mono (hk (pins ++ [(J, oI), (S, seqObj "list" #[] 0)]) σ H F _ x v d kd Ip sf px rx hkd) (fun w s2 hw => ?_) fun _ _ z => z.elim)))
      obtain ⟨y, F2, H2, I2, rw2, x2, py2⟩ := hw
      have pI := I2.pin (J, oI) (by simp)
      have pS := I2.pin (S, seqObj "list" #[] 0) (by simp)
      have I2' : Inv X pins σ H2 s2 := I2.unpinned
      have fI2 : FpOk X pins H2 J := fI.now pI.2.1
      have fS2 : FpOk X pins H2 S := fS.now pS.2.1
      have s3 := Heap.SameBut.update s2.heap S (Obj.mapSeq fun _ => #[v, w])
      obtain ⟨c2, hc2⟩ : ∃ c2, (s2.heap.update S (Obj.mapSeq fun _ => #[v, w])).get? S = some (seqObj "list" #[v, w] c2) := ⟨_, get?_update_seq pS.1 fun _ => #[v, w]⟩
      show wpAny _ X.A.in1 (updateSeq S (fun _ => #[v, w]) >>= _) _ _ _
      refine wpAny_bind (wpAny_updateSeq pS.1 rfl ?_)
      rw [hname]
      have I3 : Inv X pins σ H2 { s2 with heap := s2.heap.update S (Obj.mapSeq fun _ => #[v, w]), toks := s2.toks } := I2'.turnedL (fp := [S]) (fun b o hb e => (s3.2 b (by simpa using hb)).trans e) (fun b hb => by rw [List.mem_singleton.mp hb]; exact fS2)
      refine wpAny_pure ⟨plainId_quiet PySem.F.plain_min_loop _, min_loop hk hc hu (ds := d :: ds) (dm := dm) hIS hlI hlS _ 0 H2 F2 H F _ x y v w d kd c2 _ rfl (by simp) I3 x2 (x2.hh.seq sq) (rs.mono x2.ff) ⟨oI, (s3.2 J hIS).trans pI.1, cI, dI⟩ hc2 fI2 fS2 rx (px.mono x2.ff) rw2 py2 hm fun x v F' H' s' a b c d => hQ x v F' H' s' a b c d⟩

@[irreducible] def mminK (mk : D → Option D) (m : ML) (md : ME) : ME := fun ρ => (m ρ).bind fun ds => (md ρ).bind fun d0 => minD mk ds d0
theorem mminK_some {mk : D → Option D} {m : ML} {md : ME} {ρ : Ro} {g : D} (h : mminK mk m md ρ = some g) : ∃ ds d0, m ρ = some ds ∧ md ρ = some d0 ∧ minD mk ds d0 = some g := by
  unfold mminK at h
  cases h1 : m ρ with
  | none => rw [h1] at h; cases h
  | some d =>
    cases h2 : md ρ with
    | none => rw [h1, h2] at h; cases h
    | some e => rw [h1, h2] at h; exact ⟨d, e, rfl, rfl, h⟩
theorem mminK_ev {mk : D → Option D} {m : ML} {md : ME} {ρ : Ro} {ds : List D} {d0 : D} (h1 : m ρ = some ds) (h2 : md ρ = some d0) : mminK mk m md ρ = minD mk ds d0 := by
  unfold mminK
  rw [h1, h2]; rfl
theorem pd_minK {q : Addr} {mk : D → Option D} {x : Str} {p pf kp kp2 pos : Pos} {e ed : Expr} {m : ML} {md : ME} (hk : KeyAt X (.ref q) mk) (hc : X.calm = true) (hu : X.A.units + 64 < cLine) (hg : Gl X "min") (hm : X.mg "min" = none) (hgf : Gl X x) (hmf : X.mg x = some (.ref q)) (ha : PB X e m) (hd : PD X ed md)
    (hdb : (x == ("__debug__" : Str)) = false := by decide) (hs : starEach (e :: []) X.env = (false, eval e X.env) :: starEach [] X.env := by rfl) :
    PD X (.Call (.Name "min" p) [e] [⟨some "key", .Name x pf, kp⟩, ⟨some "default", ed, kp2⟩] pos) (mminK mk m md) := by
  intro pins s σ H Q I h
  obtain ⟨F0, H0, F, ρ, g, rl, em, q0⟩ := h
  obtain ⟨ds, d0, h1, h2, h3⟩ := mminK_some em
  refine wpAny_Call_Name_kw (ld_blt I hg hm PyProof.Rows.boot_min ?_ (by decide) (by decide))
  have A := pa_cons ha pa_nil hs pos pins s σ H (fun vs H1 => ∃ p xs F1, vs = [.ref p] ∧ Ext F H F1 H1 ∧ SqL X.K H1 p xs ∧ Reps X.K F1 xs ds) I ⟨F0, H0, F, ρ, ds, rl, h1, fun p xs F1 H1 x1 s1 r1 => ⟨p, xs, F1, rfl, x1, s1, r1⟩⟩
  refine callWith_kw (thn A fun us s1 ⟨vs, H1, I1, r1, p, xs, F1, ev, x1, sq, rs⟩ => ?_) (by rw [hs]; rfl) (by rw [hs]; rfl)
  subst ev
  obtain ⟨u, rfl, ru⟩ := vals1 r1
  cases ru
  have B := pk_cons (nm := some "key") (kpos := kp) (pe_glob (v := .ref q) (pos := pf) hgf hmf rfl hdb) (pk_cons (nm := some "default") (kpos := kp2) hd pk_nil) pos pins s1 σ H1 (fun vs H2 => ∃ y F2, vs = [.ref q, y] ∧ Ext F1 H1 F2 H2 ∧ Rep X.K F2 y d0) I1 ⟨F0, H0, F1, ρ, d0, rl.go x1, h2, fun y F2 H2 x2 r2 => ⟨y, F2, rfl, x2, r2⟩⟩
  refine thn B fun us s2 ⟨vs, H2, I2, r2, y, F2, ev, x2, p0⟩ => ?_
  subst ev
  obtain ⟨u1, u2, rfl, ru1, ru2⟩ := vals2 r2
  cases ru1
  exact min_top hk hc hu I2 x2.fh (x2.hh.seq sq) (rs.mono x2.ff) ru2 p0 h3 fun x v F' H' s' I' rx x3 px => ⟨x, H', I', rx, q0 x F' H' ((x1.trans x2).trans x3) px⟩
end
end L2

set_option Elab.async false
set_option linter.all false
set_option maxRecDepth 100000
namespace L2
open PySem PySem.Spec PyProof.Rows
section
variable {prog : Program} {w : World} {A : Around} {E : Value → Shared → Prop} {s : Shared}
theorem sub_rit_reversed : isSubtype (.type "range_iterator") (.type "reversed") = pure false := by rw [isSubtype_type]; kernel_rfl
def ritObj (x left step : Int) : Obj := { cls := .type "range_iterator", dict := none, data := .fields #[rawInt x, rawInt left, rawInt step], slots := #[] }
theorem call_range_reversed {l : Addr} {j : Int} {t u v : Tok} {Q : Value → Shared → Prop} (hl : IsRange s.heap l 0 j 1 t u v) (h1 : -(2 ^ 62) ≤ j) (h2 : j < 2 ^ 62)
    (h : Q (.ref s.heap.objs.size) { s with heap := s.heap.push (ritObj ((j.toNat : Int) - 1) j.toNat (-1)) }) : wpAny (model prog w) A (call (.builtin "range.__reversed__") [.ref l]) Q E s := by
  have hT : s.TypeIs (.ref l) "range" := ⟨_, hl, rfl⟩
  refine wpAny_call_entry F.slot_range_reversed hT F.entry_range_reversed ?_ (F.args_range_reversed_1 _)
  have hsz : Builtin.Range.rangeSize 0 j 1 = (j.toNat : Int) := by rw [rangeSize_one]; split <;> omega
  unfold Builtin.«range.__reversed__»
  refine wpAny_bind (wpAny_of_eq (a := Value.ref l) rfl ?_)
  unfold Builtin.Range.rangeFields
  refine wpAny_bind ?_
  refine wpAny_bind (wpAny_field hl rfl (x := .int 0 t) rfl ?_)
  refine wpAny_bind (wpAny_of_eq (a := some (0 : Int)) rfl ?_)
  refine wpAny_bind (wpAny_field hl rfl (x := .int j u) rfl ?_)
  refine wpAny_bind (wpAny_of_eq (a := some j) rfl ?_)
  refine wpAny_bind (wpAny_field hl rfl (x := .int 1 v) rfl ?_)
  refine wpAny_bind (wpAny_of_eq (a := some (1 : Int)) rfl ?_)
  refine wpAny_pure ?_
  dsimp only
  rw [hsz]
  have hsm : (Builtin.Range.rangeFitsLong 0 && Builtin.Range.rangeFitsLong j && Builtin.Range.rangeFitsLong 1 && Builtin.Range.rangeFitsLong (-1) && Builtin.Range.rangeFitsLong (0 - 1) && Builtin.Range.rangeFitsLong (j.toNat : Int)) = true := by
    simp only [Builtin.Range.rangeFitsLong, Bool.and_eq_true, decide_eq_true_eq]
    omega
  simp only [hsm, Bool.not_true, Bool.false_eq_true, if_false, if_true]
  have e : (0 : Int) + ((j.toNat : Int) - 1) * 1 = (j.toNat : Int) - 1 := by omega
  rw [e]
  exact wpAny_bind (wpAny_newObj_type (wpAny_pure ⟨_, rfl, h⟩))
theorem code_reversed_newR {l : Addr} {j : Int} {t u v : Tok} {Q₁ : Value → Shared → Prop} (hl : IsRange s.heap l 0 j 1 t u v) (h1 : -(2 ^ 62) ≤ j) (h2 : j < 2 ^ 62)
    (h : Q₁ (.ref s.heap.objs.size) { s with heap := s.heap.push (ritObj ((j.toNat : Int) - 1) j.toNat (-1)) }) :
    codeAny (model prog w) A (.call (.builtin "reversed.__new__") ⟨[.type "reversed", .ref l], []⟩) (wants Q₁ E) s := by
  have hT : s.TypeIs (.ref l) "range" := ⟨_, hl, rfl⟩
  refine codeAny_of_tree ?_
  show wpAny _ A.in1 (do checkBuiltinCall "reversed.__new__" ⟨[.type "reversed", .ref l], []⟩; again (.builtin "reversed.__new__" ⟨[.type "reversed", .ref l], []⟩)) _ _ s
  refine wpAny_bind (wpAny_of_eq (F.newCall_reversed_1 _) (wpAny_pure ⟨plainId_quiet F.plain_reversed_new _, codeAny_builtin F.entry_reversed_new ?_⟩))
  rw [Around.under_plainId F.plain_reversed_new _]
  unfold Builtin.«reversed.__new__»
  refine wpAny_bind (wpAny_of_eq (newClass_reversed _) ?_)
  try dsimp only
  refine wpAny_bind (wpAny_of_eq (a := ()) (by first | rfl | kernel_rfl) ?_)
  refine wpAny_bind (wpAny_of_eq (a := ()) (by first | rfl | kernel_rfl) ?_)
  try dsimp only
  refine wpAny_bind (wpAny_specialOf hT F.slot_range_reversed.lookup ?_)
  try dsimp only
  refine wpAny_bind (wpAny_of_eq (F.slot_range_reversed.bind _) ?_)
  try dsimp only
  first
  | rw [if_neg (show ¬ ((Value.builtin "range.__reversed__" == Value.none) = true) from Bool.false_ne_true)]
  | (show wpAny _ _ (if (Value.builtin "range.__reversed__" == Value.none) = true then _ else _) _ _ _; rw [if_neg (show ¬ ((Value.builtin "range.__reversed__" == Value.none) = true) from Bool.false_ne_true)])
  refine wpAny_bind (wpAny_rule ?_)
  refine wpAny_bind (m := runValue (.call (.builtin "range.__reversed__") ⟨[.ref l], []⟩)) (show wpAny _ _ (call (.builtin "range.__reversed__") [.ref l]) _ _ _ from call_range_reversed hl h1 h2 ?_)
  first
  | exact wpAny_pure h
  | exact wpAny_bind (wpAny_pure (wpAny_pure h))
theorem call_reversed_range {l : Addr} {j : Int} {t u v : Tok} {Q : Value → Shared → Prop} (hl : IsRange s.heap l 0 j 1 t u v) (h1 : -(2 ^ 62) ≤ j) (h2 : j < 2 ^ 62)
    (h : Q (.ref s.heap.objs.size) { s with heap := s.heap.push (ritObj ((j.toNat : Int) - 1) j.toNat (-1)) }) : wpAny (model prog w) A (call (.type "reversed") [.ref l]) Q E s := by
  refine callType_other (U := "range_iterator") (Q₁ := fun obj s₁ => obj = .ref s.heap.objs.size ∧ s₁ = { s with heap := s.heap.push (ritObj ((j.toNat : Int) - 1) j.toNat (-1)) }) (by decide +kernel) F.create_reversed ⟨_, _, F.mro_reversed⟩ F.made_reversed sub_rit_reversed (F.typeCall_reversed_1 _) (code_reversed_newR hl h1 h2 ⟨rfl, rfl⟩) ?_
  rintro obj s₁ ⟨rfl, rfl⟩
  exact ⟨⟨_, Heap.get?_push_size _ rfl, rfl⟩, h⟩
end
def Itdn (hi : Int) (n : Nat) : It := ⟨fun i _ => i < n, fun i H x H' => H' = H ∧ x = .int (hi - i), fun i _ => n ≤ i⟩
theorem turn_down {P : Program} {w : World} {K : PySem.W.Frag} {tg : Expr} (it : Addr) (lo : Int) (n : Nat) : Turn P w K tg (Itdn lo n) [it] it (fun i h => IsRangeIter h it (lo + (i : Nat) * (-1)) ((n : Int) - (i : Nat)) (-1)) where
  mem := by simp
  obj := fun i h st b hb => by
    have e : b = it := by simpa using hb
    subst e
    exact ⟨_, st, fun v z => by
      have z' : Data.fields _ = Data.cell v := z
      cases z'⟩
  keep := fun i h h' st k => k it (by simp) _ st
  item := by
    intro X hP hw hK hc i pins s σ H E I hf st hg
    subst hP hw hK
    obtain ⟨f0, f1, f2, f3, f4, f5⟩ := hf it (by simp)
    have W := Walks.range (prog := X.prog) (w := X.w) (I.ok.hd hc) it lo (-1) n
    refine W.item i s _ _ hg st fun v h' tk hv st' kk => ?_
    obtain ⟨t, rfl⟩ := hv
    have I1 : Inv X pins σ H { s with heap := h', toks := tk } := I.turned (fun b o hb e => kk b o (by simpa using hb) e) f0 f1 f3 f4 f5
    refine ⟨_, rfl, go_of (s := { s with heap := h', toks := tk }) (n := "range_iterator") st' rfl rfl (by decide) ⟨.int (lo - i), H, I1, ⟨t, ?_⟩, ⟨rfl, rfl⟩, st', fun b hb => (hf b hb).1⟩⟩
    rw [show lo + (i : Int) * (-1) = lo - i by omega]
  done := by
    intro X hP hw hK hc i pins s σ H E I hf st hg
    subst hP hw hK
    obtain ⟨f0, f1, f2, f3, f4, f5⟩ := hf it (by simp)
    exact wpAny_pyNext_range_end (I.ok.hd hc) st (by have : n ≤ i := hg; omega) fun h' eb => ⟨rfl, I.turned (t' := s.toks) (fun b o hb e => eb b o hb e) f0 f1 f3 f4 f5⟩
  self := fun _ _ _ _ _ st h => wpAny_pyIter_rangeiter st h
section
variable {X : Cx}
def downD (n : Nat) : List D := (List.range n).map fun (i : Nat) => D.int ((n : Int) - 1 - (i : Int))
theorem downD_length (n : Nat) : (downD n).length = n := by unfold downD; simp
theorem itd_down {K : PySem.W.Frag} {F : Hp} {n : Nat} : ItD K F (Itdn ((n : Int) - 1) n) (downD n) where
  go := fun i F1 H1 a b hi => by rw [downD_length] at hi; exact hi
  yld := fun i F1 H1 x H2 d a b e y => by
    obtain ⟨rfl, rfl⟩ := y
    unfold downD at e
    rw [List.getElem?_map] at e
    have hi : i < n := by
      rcases Nat.lt_or_ge i n with h | h
      · exact h
      · rw [List.getElem?_eq_none (by simpa using h)] at e; cases e
    rw [List.getElem?_range hi] at e
    cases e
    exact ⟨F1, .refl b, .int _⟩
  stop := fun F1 H1 a b => by rw [downD_length]; exact Nat.le_refl n
def rngD : List D → Option (List D)
  | [.int j] => if okR j = true then some (downD j.toNat) else none
  | _ => none
theorem pid_revR1 {tg a : Expr} {m : ML} {p p2 pos pos2 : Pos} (hg : Gl X "reversed") (hm : X.mg "reversed" = none) (hg' : Gl X "range") (hm' : X.mg "range" = none) (ha : PAs X [a] m) (he : starEach [a] X.env = (false, eval a X.env) :: starEach [] X.env := by rfl)
    (hpl : ∀ pos, (backTo pos (starEach [] X.env)).any (·.1) = false := by intro _; rfl)
    (hs : starEach (Expr.Call (.Name "range" p2) [a] [] pos2 :: []) X.env = (false, eval (Expr.Call (.Name "range" p2) [a] [] pos2) X.env) :: starEach [] X.env := by rfl) :
    PId X tg (.Call (.Name "reversed" p) [.Call (.Name "range" p2) [a] [] pos2] [] pos) (mlist rngD m) := by
  intro pins s σ H R I h
  obtain ⟨F0, H0, F, ρ, its, rl, e, q⟩ := h
  obtain ⟨ds, h1, h2⟩ := mlist_some e
  have A := pa_cons (pe_callTy call_rng1 hg' hm' boot_range ha (by decide) (by decide) he (hpl _)) pa_nil hs pos pins s σ H (fun vs H1 => ∃ p j F1 H2, vs = [.ref p] ∧ ds = [.int j] ∧ H2 p = none ∧ H1 = upd H2 p (.rng 0 j) ∧ Ext F H F1 H2) I ⟨F0, H0, F, ρ, ds, rl, h1, fun vs F1 H1 x1 r1 => by
    unfold rngD at h2
    split at h2
    · rename_i j
      cases r1 with
      | cons r rr =>
        cases rr; cases r
        exact ⟨j, rfl, fun p hp => ⟨p, j, F1, H1, rfl, rfl, hp, rfl, x1⟩⟩
    · cases h2⟩
  refine Call_ (ld_blt I hg hm boot_reversed (PyProof.Rows.callWith_type1 (thn A fun us s1 ⟨vs, H1, I1, r1, q1⟩ => ?_) hs (hpl _)))
  obtain ⟨l, j, F1, H2, ev, ed, hn, eH, x1⟩ := q1
  subst ev ed eH
  obtain ⟨u, rfl, ru⟩ := vals1 r1
  cases ru
  have h2 : (if okR j = true then some (downD j.toNat) else none) = some its := h2
  split at h2
  case isFalse => cases h2
  rename_i hk
  cases h2
  unfold okR at hk
  simp only [Bool.and_eq_true, decide_eq_true_eq] at hk
  obtain ⟨t, u, v, eo⟩ := I1.hok l _ upd_same
  refine call_reversed_range (j := j) eo hk.1 hk.2 ?_
  have hit : IsRangeIter (s1.heap.push (ritObj ((j.toNat : Int) - 1) j.toNat (-1))) s1.heap.objs.size ((j.toNat : Int) - 1) j.toNat (-1) := Heap.get?_push_size _ rfl
  refine wpAny_pyIter_rangeiter hit ?_
  have x2 : Ext F H F1 (upd H2 l (.rng 0 j)) := x1.trans (Ext.own x1.fh hn)
  refine ⟨s1.heap.objs.size, [s1.heap.objs.size], _, _, _, rfl, I1.kept (t' := s1.toks) fun b o e => Heap.get?_push_of_some _ e, turn_down _ ((j.toNat : Int) - 1) j.toNat, ?_, fun b hb => ?_, q _ F1 _ x2 itd_down⟩
  · have e1 : ((j.toNat : Int) - 1) + ((0 : Nat) : Int) * (-1) = (j.toNat : Int) - 1 := by simp
    have e2 : ((j.toNat : Nat) : Int) - ((0 : Nat) : Int) = j.toNat := by simp
    show IsRangeIter _ _ (((j.toNat : Int) - 1) + ((0 : Nat) : Int) * (-1)) (((j.toNat : Nat) : Int) - ((0 : Nat) : Int)) (-1)
    rw [e1, e2]
    exact hit
  · have e : b = s1.heap.objs.size := by simpa using hb
    subst e
    exact I1.fpOk (Nat.le_refl _) (I1.hok.fresh (Nat.le_refl _))
end
end L2

set_option Elab.async false
set_option linter.all false
set_option maxRecDepth 100000
namespace L2
open PySem PySem.Spec PyProof.Rows
section
variable {X : Cx} {a b : Expr} {pos : Pos}
end
end L2

set_option Elab.async false
set_option linter.all false
set_option maxRecDepth 100000
namespace L2
open PySem PySem.Spec PyProof.Rows
section
variable {X : Cx} {e : Expr} {pos : Pos} {es : List Expr} {E : XK} {mf : MG} {st : Stmt} {na : MEm}
@[irreducible] def masgm (g : Tg) (x : MEm) : MS := fun ρ => match x ρ with
  | some (d, ρ1) => (match tgD g d ρ1 with | some ρ2 => some (.nx ρ2) | none => none)
  | none => none
theorem psd_asgm {g : Tg} (h : PS X st (tAsg (TDm X.K na) (TGd X.K g))) : PSd X st (masgm g na) := h.imp fun D σ H ⟨F0, H0, F, ρ, o, rl, e, ok⟩ => by
  unfold masgm at e
  split at e
  · rename_i d ρ1 h1
    split at e
    · rename_i ρ2 h2
      cases e
      exact ⟨F0, H0, F, ρ, d, ρ1, rl, h1, fun v F1 H1 rl1 s1 r1 => ⟨F0, H0, F1, ρ1, d, ρ2, rl1, r1, h2, fun F' H' σ' rl' x2 => ok F' H' σ' rl' (s1.trans x2.ff)⟩⟩
    · cases e
  · cases e
end
section
variable {X : Cx} {a b : Expr} {pos : Pos}
end
end L2

set_option Elab.async false
set_option linter.all false
set_option maxRecDepth 100000
namespace L2
open PySem PySem.Spec PyProof.Rows
section
variable {X : Cx} {pins : List (Addr × Obj)} {σ : St}
end
end L2

set_option Elab.async false
set_option linter.all false
set_option maxRecDepth 100000
namespace L2
open PySem PySem.Spec PyProof.Rows
section
variable {X : Cx} {pins : List (Addr × Obj)} {σ : St}
end
end L2

set_option Elab.async false
set_option linter.all false
set_option maxRecDepth 100000
namespace L2
open PySem PySem.Spec PyProof.Rows
section
variable {X : Cx} {pins : List (Addr × Obj)} {σ : St}
end
section
variable {X : Cx}
end
end L2

set_option Elab.async false
set_option linter.all false
set_option maxRecDepth 100000
namespace L2
open PySem PySem.Spec PyProof.Rows
section
variable {X : Cx} {pins : List (Addr × Obj)} {σ : St}
end
end L2

set_option Elab.async false
set_option linter.all false
set_option maxRecDepth 100000
namespace L2
open PySem PySem.Spec PyProof.Rows PySem.Builtin PySem.Builtin.Str

section
variable {X : Cx} {a b c e o : Expr} {ma mb mo : ME} {pos : Pos}
def strF : List D → Option D
  | [.int i] => if i.natAbs.log2 < 1920 then some (.str (Str.ofString (toString i))) else none
  | _ => none
def intTF : List D → Option D
  | [.str x] => if x.length ≤ 640 then (intText? x).map .int else none
  | _ => none
def strM (g : Str → List D → Option D) : D → List D → Option D
  | .str z, ds => g z ds
  | _, _ => none
@[irreducible] def mmeth (g : Str → List D → Option D) (x : ME) (m : ML) : ME := fun ρ => (x ρ).bind fun d => (m ρ).bind fun ds => strM g d ds
@[irreducible] def mmeth0 (g : Str → Option D) (x : ME) : ME := fun ρ => (x ρ).bind fun d => match d with | .str z => g z | _ => none
def startsF (z : Str) : List D → Option D
  | [.str y] => some (.bl (Txt.startswith z y))
  | _ => none
def remPF (z : Str) : List D → Option D
  | [.str y] => if z.length ≤ sizeLine then some (.str (Txt.removeprefix z y)) else none
  | _ => none
def strsD : List D → Option (List Str)
  | [] => some []
  | .str i :: r => match strsD r with | some ns => some (i :: ns) | none => none
  | _ => none
def joinF (z : Str) : List D → Option D
  | [.lst ds] => match strsD ds with | some ys => if (ys.map (·.length)).sum + ys.length * z.length ≤ 16777216 then some (.str (Txt.join z ys)) else none | none => none
  | _ => none
def splitF (z : Str) : List D → Option D
  | [.str y] => if (y.length == 0) = false ∧ z.length + 2 ≤ sizeLine then some (.lst ((Txt.split z y).map D.str)) else none
  | _ => none
@[irreducible] def mcutS (m : ME) (lo hi : MO) : ME := fun ρ => (m ρ).bind fun d => (lo ρ).bind fun l => (hi ρ).bind fun h => match d with | .str z => if z.length ≤ sizeLine then some (.str (Txt.slice z l h)) else none | _ => none
end
end L2

set_option Elab.async false
set_option linter.all false
set_option maxRecDepth 100000
namespace L2
open PySem PySem.Spec PyProof.Rows PySem.Builtin PySem.Builtin.Str

section
variable {X : Cx} {a b c e o : Expr} {ma mb mo : ME} {pos : Pos}
end
end L2

set_option Elab.async false
set_option linter.all false
set_option maxRecDepth 100000
namespace L2
open PySem PySem.Spec PyProof.Rows

def blkRoO (src : List (Option Nat)) (ρ : Ro) : Ro := src.map fun o => o.bind fun i => match ρ[i]? with | some (some (.sh d)) => some (.sh d) | some (some (.own ds)) => some (.own ds) | _ => none
@[irreducible] def mcompO (src : List (Option Nat)) (mi : ML) (g : Tg) (c : MB) (elt : ME) : ML := fun ρ => (mi ρ).bind fun its => compD g c elt its (blkRoO src ρ) []
def srcOk (src : List (Option Nat)) : Prop := ∀ i j k : Nat, src[i]? = some (some k) → src[j]? = some (some k) → i = j
theorem srcOk_of {src : List (Option Nat)} (h : ∀ i, i < src.length → ∀ j, j < src.length → src[i]? = src[j]? → src[i]? = some none ∨ i = j) : srcOk src := fun i j k hi hj => by
  have li := (List.getElem?_eq_some_iff.mp hi).1
  have lj := (List.getElem?_eq_some_iff.mp hj).1
  rcases h i li j lj (by rw [hi, hj]) with e | e
  · rw [hi] at e; cases e
  · exact e
theorem blkO_at {src : List (Option Nat)} {ρ : Ro} {i : Nat} {x : S} (e : (blkRoO src ρ)[i]? = some (some x)) : ∃ k, src[i]? = some (some k) ∧ ρ[k]? = some (some x) ∧ nob (some x) := by
  unfold blkRoO at e
  rw [List.getElem?_map] at e
  cases h : src[i]? with
  | none => rw [h] at e; cases e
  | some o =>
    rw [h] at e
    cases o with
    | none => cases e
    | some k =>
      simp only [Option.map_some, Option.bind_some] at e
      split at e
      · rename_i d h'; cases e; exact ⟨k, rfl, h', True.intro⟩
      · rename_i ds h'; cases e; exact ⟨k, rfl, h', True.intro⟩
      · cases e
theorem blk0_at {src : List (Option Nat)} {σ : St} {i k : Nat} {v : V} (h : src[i]? = some (some k)) (hv : σ[k]? = some (some v)) : (blk0 src σ)[i]? = some (some v) := by
  unfold blk0
  rw [List.getElem?_map, h]
  simp only [Option.map_some, Option.bind_some, hv]; rfl
theorem blk0_back {src : List (Option Nat)} {σ : St} {i k : Nat} {v : V} (h : src[i]? = some (some k)) (hv : (blk0 src σ)[i]? = some (some v)) : σ[k]? = some (some v) := by
  unfold blk0 at hv
  rw [List.getElem?_map, h] at hv
  simp only [Option.map_some, Option.bind_some] at hv
  cases hk : σ[k]? with
  | none => rw [hk] at hv; cases hv
  | some o => rw [hk] at hv; simpa using hv
theorem Rl.blkO {K : PySem.W.Frag} {F0 H0 F H : Hp} {σ : St} {ρ : Ro} (r : Rl K F0 H0 F H σ ρ) {src : List (Option Nat)} (ok : srcOk src) {p : Addr} (hp : H p = none) : Rl K F (upd F p (.lst [])) F (upd H p (.lst [])) (blk0 src σ) (blkRoO src ρ) := by
  have hF : F p = none := r.fh.free hp
  refine ⟨⟨Same.refl F, r.fh.put2, r.fh.put hF, fun b e n => absurd e n, fun _ _ _ z => z⟩, by unfold blk0 blkRoO; simp, fun i d e => ?_, fun i ds e => ?_, fun i j q ds es hij e1 e2 s1 s2 => ?_, fun i q ds e => ?_, fun i j q ds es e => ?_, fun i j q q' ds es e => ?_⟩
  · obtain ⟨k, h1, h2, _⟩ := blkO_at e
    obtain ⟨v, a, b⟩ := r.sh k d h2
    exact ⟨v, blk0_at h1 a, b⟩
  · obtain ⟨k, h1, h2, _⟩ := blkO_at e
    obtain ⟨q, xs, a, b, c, d, z⟩ := r.own k ds h2
    have hq : q ≠ p := fun w => by rw [w, hp] at c; cases c
    exact ⟨q, xs, blk0_at h1 a, b, by rw [upd_ne hq]; exact c, d, by rw [upd_ne hq]; exact b⟩
  · obtain ⟨k, h1, h2, _⟩ := blkO_at e1
    obtain ⟨l, h3, h4, _⟩ := blkO_at e2
    refine r.inj k l q ds es (fun w => ?_) h2 h4 (blk0_back h1 s1) (blk0_back h3 s2)
    subst w
    exact hij (ok i j k h1 h3)
  · obtain ⟨k, h1, h2, n⟩ := blkO_at e; exact n.elim
  · obtain ⟨k, h1, h2, n⟩ := blkO_at e; exact n.elim
  · obtain ⟨k, h1, h2, n⟩ := blkO_at e; exact n.elim
theorem Rl.rebase {K : PySem.W.Frag} {F1 F H : Hp} {σ : St} {ρ : Ro} {p : Addr} {xs ys : List V} (r : Rl K F1 (upd F1 p (.lst xs)) F H σ ρ) (hF : F p = none) (hF1 : F1 p = none) : Rl K F1 (upd F1 p (.lst ys)) F (upd H p (.lst ys)) σ ρ := by
  have ne : ∀ q, upd F1 p (.lst xs) q = none → q ≠ p := fun q z w => by rw [w, upd_same] at z; cases z
  refine ⟨⟨r.ext.ff, fun b u e => ?_, r.fh.put hF, fun b e n => ?_, r.ext.nf⟩, r.len, r.sh, fun i ds e => ?_, r.inj, fun i q ds e => ?_, r.obn, r.ob1⟩
  · by_cases hb : b = p
    · subst hb; rw [upd_same] at e ⊢; exact e
    · rw [upd_ne hb] at e ⊢
      exact r.ext.hh b u (by rw [upd_ne hb]; exact e)
  · have hb : b ≠ p := fun w => by rw [w, hF] at n; exact n rfl
    rw [upd_ne hb]; exact e
  · obtain ⟨q, zs, a, b, c, d, z⟩ := r.own i ds e
    have hq := ne q z
    rw [upd_ne hq] at z
    exact ⟨q, zs, a, b, by rw [upd_ne hq]; exact c, d, by rw [upd_ne hq]; exact z⟩
  · obtain ⟨a, b, z, zs, c, d⟩ := r.ob i q ds e
    have hq := ne q z
    rw [upd_ne hq] at z
    exact ⟨a, b, by rw [upd_ne hq]; exact z, zs, by rw [upd_ne hq]; exact c, d⟩
theorem Ext.acc {F H F' H' : Hp} {p : Addr} {o : HO} (x : Ext F H F' H') (hp : H p = none) (hF : F' p = none) : Ext F H F' (upd H' p o) := ⟨x.ff, x.hh.put hp, x.fh.put hF, x.new, x.nf⟩
theorem comp_tfO {K : PySem.W.Frag} {src : List (Option Nat)} {mi : ML} {g : Tg} {c : MB} {elt : ME} (so : srcOk src) {σ : St} {H : Hp} {Q : VK} (h : TF K (mcompO src mi g c elt) σ H Q) : tComp src (TId K mi) (TGd K g) (TC K c) (TD K elt) σ H Q := by
  obtain ⟨F0, H0, F, ρ, out, rl, e, q⟩ := h
  unfold mcompO at e
  cases h1 : mi ρ with
  | none => rw [h1] at e; cases e
  | some its =>
    rw [h1] at e
    have e : compD g c elt its (blkRoO src ρ) [] = some out := e
    refine ⟨F0, H0, F, ρ, its, rl, h1, fun J F1 H1 x1 I => ?_⟩
    intro p hp
    have rb := (rl.go x1).blkO so hp
    have hF1 : F1 p = none := x1.fh.free hp
    refine ⟨fun i m σ' H' => ∃ F' ρ' acc xs, Rl K F1 (upd F1 p (.lst xs)) F' H' σ' ρ' ∧ Ext F1 H1 F' H' ∧ H' p = some (.lst xs) ∧ F' p = none ∧ Reps K F' xs acc ∧ i ≤ its.length ∧ m = its.length - i ∧ compD g c elt (its.drop i) ρ' acc = some out,
      ⟨_, F1, blkRoO src ρ, [], [], rb, (Ext.refl x1.fh).acc hp hF1, upd_same, hF1, .nil, Nat.zero_le _, rfl, e⟩, ?_⟩
    rintro i m σ' H' ⟨F', ρ', acc, xs, rl', xe, hH', hF', ra, hi', rfl, e'⟩
    by_cases hlt : i < its.length
    · right
      have hd := List.getElem?_eq_getElem hlt
      refine ⟨I.go i F' H' xe.ff rl'.fh hlt, fun σ2 H2 => ∃ F2 ρ2 acc2 xs2, Rl K F1 (upd F1 p (.lst xs2)) F2 H2 σ2 ρ2 ∧ Ext F1 H1 F2 H2 ∧ H2 p = some (.lst xs2) ∧ F2 p = none ∧ Reps K F2 xs2 acc2 ∧ compD g c elt (its.drop (i + 1)) ρ2 acc2 = some out, ?_, fun x H2 y => ?_⟩
      · rintro σ2 H2 ⟨F2, ρ2, acc2, xs2, b1, b2, b3, b4, b5, b6⟩
        exact ⟨its.length - (i + 1), by omega, F2, ρ2, acc2, xs2, b1, b2, b3, b4, b5, hlt, rfl, b6⟩
      · obtain ⟨F2, x2, r2⟩ := I.yld i F' H' x H2 _ xe.ff rl'.fh hd y
        rw [drop_get hd] at e'
        unfold compD at e'
        have pn : ∀ {F3 H3 : Hp}, Ext F' H' F3 H3 → F3 p = none := fun {F3 H3} x3 => by
          cases qq : F3 p with
          | none => rfl
          | some o => have := x3.new p hF' (by rw [qq]; simp); rw [this] at hH'; cases hH'
        cases h2 : tgD g its[i] ρ' with
        | none => simp only [h2] at e'; cases e'
        | some ρ1 =>
          simp only [h2] at e'
          refine ⟨F1, _, F2, ρ', _, ρ1, rl'.go x2, r2, h2, fun F3 H3 σ3 rl3 x3 => ?_⟩
          have x23 := x2.trans x3
          cases h3 : c ρ1 with
          | none => simp only [h3] at e'; cases e'
          | some k =>
            refine ⟨F1, _, F3, ρ1, k, rl3, h3, fun F4 H4 x4 => ?_⟩
            have x24 := x23.trans x4
            cases k with
            | false =>
              simp only [h3] at e'
              exact iteF ⟨F4, ρ1, acc, xs, rl3.go x4, xe.trans x24, x24.hh _ _ hH', pn x24, ra.mono x24.ff, e'⟩
            | true =>
              simp only [h3] at e'
              refine iteT ?_
              cases h4 : elt ρ1 with
              | none => simp only [h4] at e'; cases e'
              | some d =>
                simp only [h4] at e'
                split at e'
                · rename_i hz
                  refine ⟨F1, _, F4, ρ1, d, rl3.go x4, h4, fun v F5 H5 x5 r5 => ?_⟩
                  have x25 := x24.trans x5
                  refine ⟨xs, x25.hh _ _ hH', by rw [ra.length]; exact hz, F5, ρ1, acc ++ [d], xs ++ [v], ((rl3.go x4).go x5).rebase (pn x25) hF1, (xe.trans x25).acc hp (pn x25), upd_same, pn x25, (ra.mono x25.ff).append (.cons r5 .nil), e'⟩
                · cases e'
    · left
      have hieq : i = its.length := by omega
      subst hieq
      rw [List.drop_length] at e'
      have e' : some acc = some out := e'
      cases e'
      exact ⟨I.stop F' H' xe.ff rl'.fh, q p xs F' H' (x1.trans xe) (x1.hh.free hp) hF' hH' ra⟩
section
variable {X : Cx} {a b c e o : Expr} {ma mb mo : ME} {pos : Pos} {st : Stmt}
theorem psd_setCsO {i : Nat} {src : List (Option Nat)} {mi : ML} {g : Tg} {cc : MB} {me : ME} (so : srcOk src) (h : PS X st (tAsg (tComp src (TId X.K mi) (TGd X.K g) (TC X.K cc) (TD X.K me)) (gName i))) : PSd X st (mset i (mlst (mcompO src mi g cc me))) := asg_d h fun _ _ _ q => comp_tfO so (pf_imp q)

end
end L2

set_option Elab.async false
set_option linter.all false
set_option maxRecDepth 100000
namespace L2
open PySem PySem.Spec PyProof.Rows

section
variable {prog : Program} {w : World} {A : Around} {E : Value → Shared → Prop} {s : Shared} {l : Addr} {xs : Array (Int × Tok)}
end
section
variable {X : Cx} {a b c e o : Expr} {ma mb mo : ME} {pos : Pos} {st : Stmt}
end
section
variable {X : Cx} {a b c e : Expr} {na nb : MEm} {pos : Pos} {st : Stmt} {es : List Expr} {E : XK} {mf : MF} {m : MLm}
end
end L2

set_option Elab.async false
set_option linter.all false
set_option maxRecDepth 100000
namespace L2
open PySem PySem.Spec PyProof.Rows

section
variable {X : Cx} {a b c e : Expr} {na nb : MEm} {pos : Pos} {st : Stmt} {es : List Expr} {m : MLm}
end
section
variable {X : Cx} {pos : Pos}
end
end L2

set_option Elab.async false
set_option linter.all false
set_option maxRecDepth 100000
namespace L2
open PySem PySem.Spec PyProof.Rows
section
variable {X : Cx} {e : Expr} {na : MEm} {pos : Pos} {st : Stmt} {es : List Expr} {m : ML} {mf : MG} {E : XK}
def numsD : List D → Bool
  | [] => true
  | .int _ :: r => numsD r
  | _ => false
theorem nums_map (ns : List Int) : numsD (ns.map .int) = true := by
  induction ns with
  | nil => rfl
  | cons n ns ih => exact ih
theorem reps_nums {K : PySem.W.Frag} {F F' : Hp} : ∀ {vs : List V} {ds : List D}, numsD ds = true → Reps K F vs ds → Reps K F' vs ds
  | _, [], _, .nil => .nil
  | _, d :: ds, h, .cons r rr => by
    cases r with
    | int k => exact .cons (.int k) (reps_nums h rr)
    | _ => cases h
theorem reps_nat_eq {K : PySem.W.Frag} {F F' : Hp} : ∀ {vs ws : List V} {ds : List D}, numsD ds = true → Reps K F vs ds → Reps K F' ws ds → vs = ws
  | _, _, [], _, .nil, .nil => rfl
  | _, _, d :: ds, h, .cons r rr, .cons r' rr' => by
    cases r with
    | int k =>
      cases r'
      have h : numsD ds = true := h
      rw [reps_nat_eq h rr rr']
    | _ => cases h
def NoL (K : PySem.W.Frag) : Prop := ∀ p o, List.lookup p K = some o → o.cls ≠ .type "list"
def noLb : PySem.W.Frag → Bool
  | [] => true
  | (_, o) :: r => (match o.cls with | .type c => c != "list" | _ => true) && noLb r
theorem NoL.of : ∀ {K : PySem.W.Frag}, noLb K = true → NoL K
  | [], _ => fun p o e => by cases e
  | (a, o') :: r, h => fun p o e z => by
    have h : ((match o'.cls with | .type c => c != "list" | _ => true) && noLb r) = true := h
    rw [Bool.and_eq_true] at h
    rw [List.lookup_cons] at e
    split at e
    · cases e
      rw [z] at h
      exact absurd h.1 (by decide)
    · exact NoL.of h.2 p o e z
open Classical in
@[irreducible] noncomputable def msetN (j i : Nat) (mf : MG) (m : ML) : MS := fun ρ => match ρ[i]? with
  | some (some (.own r0)) => (match m ρ with
    | some ds => (match anyP fun p => mf p r0 ds with
      | some (.sh (.lst gs), r1) => if r1 = r0 ∧ numsD r0 = true ∧ numsD ds = true ∧ numsD gs = true then some (.nx (ρ.set j (some (.own gs)))) else none
      | _ => none)
    | none => none)
  | _ => none
theorem psd_setN (hK : NoL X.K) {n i j : Nat} {x y : Str} {px pos' : Pos} (hN : X.N.Nodup) (hi : X.N[j]? = some y) (hx : Loc X.env.scope y) (h : ∀ t, PA X (.Name x px :: es) t → PE X e (tCall (spG X.K n mf) [] E t)) (hl : es.length + 1 = n) (hv : PE X (.Name x px) (tVar i)) (ha : PAs X es m) (hm : ∀ ρ ds, m ρ = some ds → ds.length = es.length)
    (hs : starEach (.Name x px :: es) X.env = (false, eval (.Name x px) X.env) :: starEach es X.env := by rfl) (hw : swapsWith e (some (.Name y pos')) pos.line X.env = pure false := by rfl) (hf : X.fn y = true ∨ X.env.scope.names.lookup y = some .local := by first | exact .inl rfl | exact .inr rfl | assumption) :
    PSd X (.Assign [.Name y pos'] e pos) (msetN j i mf m) := (ps_set hN hi hx (h _ (pa_cons hv ha hs)) hw hf).imp fun D σ H ⟨F0, H0, F, ρ, o, rl, e, ok⟩ => by
  unfold msetN at e
  split at e
  · rename_i r0 h0
    obtain ⟨p, xs0, a1, a2, a3, a4, a5⟩ := rl.own i _ h0
    split at e
    · rename_i ds h1
      split at e
      · rename_i gs r1 h2
        split at e
        · rename_i hh
          obtain ⟨e1, f0, fd, fg⟩ := hh
          subst e1
          cases e
          have h2 := anyP_some h2
          refine ⟨_, a1, F0, H0, F, ρ, ds, rl, h1, fun vs F1 H1 x1 rv => ?_⟩
          have rl1 := rl.go x1
          obtain ⟨p', xs, c1, c2, hHp, rs, c5⟩ := rl1.own i _ h0
          rw [a1] at c1; cases c1
          show spG X.K n mf ((.ref p :: vs) ++ []) H1 _ E
          rw [List.append_nil]
          refine ⟨by rw [List.length_cons, rv.length, hm ρ ds h1, hl], p, vs, fun _ => none, r1, ds, _, _, xs, rfl, hHp, rfl, (fun b o z => by cases z), reps_nums f0 rs, reps_nums fd rv, h2 p, ?_⟩
          intro u F' H' xs' x2 ru fp hp' rp
          cases ru with
          | lst sq2 rs2 =>
              rename_i q ys
              have hFq : F' q = some (.lst ys) := by
                rcases sq2 with (z | ⟨o, z⟩) | ⟨o, _, _, z, c, _⟩
                · exact z
                · have := x2.nf q o _ z; cases this
                · exact absurd c (hK _ _ z)
              have hne : q ≠ p := fun z => by rw [z, fp] at hFq; cases hFq
              have hq : H1 q = none := by
                have := x2.new q rfl (by rw [hFq]; simp)
                rw [del_ne hne] at this; exact this
              have hxs : xs' = xs := reps_nat_eq f0 rp rs
              subst hxs
              have same : Same H1 H' := fun b o z => by
                by_cases hb : b = p
                · subst hb; rw [hHp] at z; cases z; exact hp'
                · exact x2.hh b o (by rw [del_ne hb]; exact z)
              have x3 : Ext F1 H1 F1 H' := ⟨Same.refl F1, same, rl1.fh.trans same, fun b e n => absurd e n, fun _ _ _ z => z⟩
              have hHq : H' q = some (.lst ys) := x2.fh _ _ hFq
              refine ok F1 H' _ ((rl1.go x3).setOwn (rl1.fh.free hq) hHq (reps_nums fg rs2) (rl1.ext.hh.free hq) (fun k es hk e1 e2 => ?_) fun k q' es e1 z => ?_) x1.ff
              · obtain ⟨q2, zs, b1, b2, b3, _⟩ := rl1.own k es e1
                rw [b1] at e2; cases e2
                rw [hq] at b3; cases b3
              · obtain ⟨_, _, _, zs, b3, _⟩ := rl1.ob k q' es e1
                rw [z, hq] at b3; cases b3
        · cases e
      · cases e
    · cases e
  · cases e
end
end L2

set_option Elab.async false
set_option linter.all false
set_option maxRecDepth 100000
namespace L2
open PySem PySem.Spec PyProof.Rows
def rng3 : List D → Option (List D)
  | [.int i, .int j, .int k] => if -1 ≤ i ∧ i < 2 ^ 61 ∧ j = -1 ∧ k = -1 then some (downD (i + 1).toNat) else none
  | _ => none
theorem size_down (i : Int) (h : -1 ≤ i) : Builtin.Range.rangeSize i (-1) (-1) = ((i + 1).toNat : Int) := by
  unfold Builtin.Range.rangeSize
  rw [if_neg (by decide)]
  split
  · rw [show (-(-1) : Int) = 1 by decide, Int.ediv_one]; omega
  · omega
theorem small_down (i : Int) (h : -1 ≤ i) (h2 : i < 2 ^ 61) : Builtin.Range.small i (-1) (-1) = true := by
  unfold Builtin.Range.small
  rw [size_down i h]
  unfold Builtin.Range.rangeFitsLong
  simp
  omega
section
variable {X : Cx}
theorem pid_range3 {tg a b c : Expr} {m : ML} {p pos : Pos} (hg : Gl X "range") (hm : X.mg "range" = none) (ha : PAs X [a, b, c] m) (he : starEach [a, b, c] X.env = (false, eval a X.env) :: starEach [b, c] X.env := by rfl) (hpl : (backTo pos (starEach [b, c] X.env)).any (·.1) = false := by rfl) :
    PId X tg (.Call (.Name "range" p) [a, b, c] [] pos) (mlist rng3 m) := by
  intro pins s σ H R I h
  obtain ⟨F0, H0, F, ρ, its, rl, e, q⟩ := h
  obtain ⟨ds, h1, h2⟩ := mlist_some e
  refine Call_ (ld_blt I hg hm boot_range (PyProof.Rows.callWith_type1 (thn (ha pos pins s σ H (fun vs H1 => ∃ i : Int, vs = [.int i, .int (-1), .int (-1)] ∧ -1 ≤ i ∧ i < 2 ^ 61 ∧ R (Itdn i (i + 1).toNat) H1) I ⟨F0, H0, F, ρ, ds, rl, h1, fun vs F1 H1 x1 r1 => ?_⟩) fun us s1 ⟨vs, H1, I1, r1, q1⟩ => ?_) he hpl))
  · unfold rng3 at h2
    split at h2
    · rename_i i j k
      split at h2
      · rename_i hk
        obtain ⟨k1, k2, rfl, rfl⟩ := hk
        cases h2
        cases r1 with
        | cons r rr =>
          cases rr with
          | cons r2 rr =>
            cases rr with
            | cons r3 rr =>
              cases rr; cases r; cases r2; cases r3
              refine ⟨i, rfl, k1, k2, q _ F1 H1 x1 ?_⟩
              have : i = ((i + 1).toNat : Int) - 1 := by omega
              have z := itd_down (K := X.K) (F := F1) (n := (i + 1).toNat)
              rw [← this] at z
              exact z
      · cases h2
    · cases h2
  · obtain ⟨i, e, k1, k2, q⟩ := q1
    subst e
    cases r1 with
    | cons r rr =>
      cases rr with
      | cons r2 rr =>
        cases rr with
        | cons r3 rr =>
          cases rr
          obtain ⟨t, rfl⟩ := r
          obtain ⟨t2, rfl⟩ := r2
          obtain ⟨t3, rfl⟩ := r3
          refine call_range_3 (by decide) ?_ (Or.inl (PyProof.noPylong_small (by omega)))
          refine wpAny_pyIter_range (IsRange.new ..) (small_down i k1 k2) ?_
          have I2 : Inv X pins σ H1 { s1 with heap := s1.heap.push { cls := .type "range", data := .fields #[.int i t, .int (-1) t2, .int (-1) t3] }, toks := s1.toks } := I1.kept fun b o e => Heap.get?_push_of_some _ e
          refine ⟨_, [(s1.heap.push { cls := .type "range", data := .fields #[.int i t, .int (-1) t2, .int (-1) t3] }).objs.size], _, _, H1, rfl,
            I2.kept (t' := s1.toks) fun b o e => Heap.get?_push_of_some _ e, turn_down _ i (i + 1).toNat, ?_, fun b hb => ?_, q⟩
          · have e1 : i + ((0 : Nat) : Int) * (-1) = i := by simp
            have e2 : (((i + 1).toNat : Nat) : Int) - ((0 : Nat) : Int) = Builtin.Range.rangeSize i (-1) (-1) := by rw [size_down i k1]; simp
            show IsRangeIter _ _ (i + ((0 : Nat) : Int) * (-1)) ((((i + 1).toNat : Nat) : Int) - ((0 : Nat) : Int)) (-1)
            rw [e1, e2]
            exact Heap.get?_push_size _ rfl
          · have e : b = (s1.heap.push { cls := .type "range", data := .fields #[.int i t, .int (-1) t2, .int (-1) t3] }).objs.size := by simpa using hb
            subst e
            exact I2.fpOk (Nat.le_refl _) (I2.hok.fresh (Nat.le_refl _))
end
end L2

set_option Elab.async false
set_option linter.all false
set_option maxRecDepth 100000
set_option maxHeartbeats 4000000
namespace Lw
open PySem L2
noncomputable section
def b_refuse_step : MS := (mif (mtest (m2 ltD (mvar 0) (mc (.int 1)))) mnever mnext)
def m_refuse_step : MF := runB 1 b_refuse_step
def b_tails_f0 : MS := (mseq (mset 6 (m2 subD (mix (bvar 0) (mvar 5)) (mix (bvar 0) (mvar 4)))) (mseq (mif (cand (mtest (m2 geD (mvar 6) (mvar 1))) (mtest (m2 geD (mlen (aslst (mix (bvar 3) (mvar 5)))) (mlen (aslst (mix (bvar 2) (mvar 4))))))) (msetix 2 (mvar 4) (mlst (mcat (sized (acons (mvar 4) anil)) (aslst (mix (bvar 3) (mvar 5)))))) mnext) (mif (cand (mtest (m2 geD (m1 negD (mvar 6)) (mvar 1))) (mtest (m2 geD (mlen (aslst (mix (bvar 2) (mvar 5)))) (mlen (aslst (mix (bvar 3) (mvar 4))))))) (msetix 3 (mvar 4) (mlst (mcat (sized (acons (mvar 4) anil)) (aslst (mix (bvar 2) (mvar 5)))))) mnext)))
def b_tails_f1 : MS := (mfor (mlist rng2 (acons (m2 addD (mvar 4) (mc (.int 1))) (acons (mlen (bvar 0)) anil))) (.nm 5) b_tails_f0)
def b_tails_r2 : MS := (mfreeze 2 (mfreeze 3 (mret (mtup (acons (mvar 2) (acons (mvar 3) anil))))))
def b_tails : MS := (mseq (msetF 2 (mcomp [none] (mlist rng1 (acons (mlen (bvar 0)) anil)) (.nm 0) cyes (mlst (sized (acons (mvar 0) anil))))) (mseq (msetF 3 (mcomp [none] (mlist rng1 (acons (mlen (bvar 0)) anil)) (.nm 0) cyes (mlst (sized (acons (mvar 0) anil))))) (mseq (mfor (mlist rngD (acons (mlen (bvar 0)) anil)) (.nm 4) b_tails_f1) b_tails_r2)))
def m_tails : MF := runB 7 b_tails
def b_tails_v9_f0 : MS := (mseq (mset 6 (m2 subD (mix (bvar 0) (mvar 5)) (mix (bvar 0) (mvar 4)))) (mseq (mif (cand (mtest (m2 geD (mvar 6) (mvar 1))) (mtest (m2 geD (mlen (aslst (mix (bvar 3) (mvar 5)))) (mlen (aslst (mix (bvar 2) (mvar 4))))))) (msetix 2 (mvar 4) (mlst (mcat (sized (acons (mvar 4) anil)) (aslst (mix (bvar 3) (mvar 5)))))) mnext) (mif (cand (mtest (m2 geD (m1 negD (mvar 6)) (mvar 1))) (mtest (m2 geD (mlen (aslst (mix (bvar 2) (mvar 5)))) (mlen (aslst (mix (bvar 3) (mvar 4))))))) (msetix 3 (mvar 4) (mlst (mcat (sized (acons (mvar 4) anil)) (aslst (mix (bvar 2) (mvar 5)))))) mnext)))
def b_tails_v9_f1 : MS := (mfor (mlist rng2 (acons (m2 addD (mvar 4) (mc (.int 1))) (acons (mlen (bvar 0)) anil))) (.nm 5) b_tails_v9_f0)
def b_tails_v9_r2 : MS := (mfreeze 2 (mfreeze 3 (mretG 0 (mpu (mtup (acons (mvar 2) (acons (mvar 3) anil)))))))
def b_tails_v9 : MS := (mseq (msetF 2 (mcomp [none] (mlist rng1 (acons (mlen (bvar 0)) anil)) (.nm 0) cyes (mlst (sized (acons (mvar 0) anil))))) (mseq (msetF 3 (mcomp [none] (mlist rng1 (acons (mlen (bvar 0)) anil)) (.nm 0) cyes (mlst (sized (acons (mvar 0) anil))))) (mseq (mfor (mlist rngD (acons (mlen (bvar 0)) anil)) (.nm 4) b_tails_v9_f1) b_tails_v9_r2)))
def m_tails_v9 : MG := runG 7 b_tails_v9
def b_longer_first : MS := (mret (mtup (acons (m1 negD (mlen (bvar 0))) (acons (mvar 0) anil))))
def m_longer_first : MF := runB 1 b_longer_first
def b_longest : MS := (mseq (mexpr (mcall m_refuse_step (acons (mvar 1) anil))) (mseq (masg (.tp [2, 3]) (mcall m_tails (acons (mvar 0) (acons (mvar 1) anil)))) (mret (mminK (fun d => shOf (m_longer_first [d])) (aslst (m2 addD (mvar 2) (mvar 3))) (mlst (sized anil))))))
def m_longest : MF := runB 4 b_longest
def b_longest_v9 : MS := (mseq (mexpr (mcall m_refuse_step (acons (mvar 1) anil))) (mseq (masgm (.tp [2, 3]) (mcallG m_tails_v9 0 (apu (acons (mvar 1) anil)))) (mretG 0 (mpu (mminK (fun d => shOf (m_longer_first [d])) (aslst (m2 addD (mvar 2) (mvar 3))) (mlst (sized anil)))))))
def m_longest_v9 : MG := runG 4 b_longest_v9
def b_how_long : MS := (mret (mlen (aslst (mcall m_longest (acons (mvar 0) (acons (mvar 1) anil))))))
def m_how_long : MF := runB 2 b_how_long
def b_law_stir : MS := (mseq (mif (mtest (m2 geD (mvar 0) (m2 powD (mc (.int 10)) (mc (.int 18))))) (mret (m2 modD (m2 shrD (m2 subD (mvar 0) (m2 powD (mc (.int 10)) (mc (.int 18)))) (m2 mulD (mc (.int 28)) (mvar 1))) (m2 powD (mc (.int 2)) (mc (.int 28))))) mnext) (mseq (mset 2 (m2 modD (m2 mulD (m2 addD (m2 addD (mvar 0) (m2 mulD (mc (.int 1013)) (mvar 1))) (mc (.int 1))) (mc (.int 16807))) (mc (.int 2147483647)))) (mseq (mset 2 (m2 modD (m2 mulD (mvar 2) (mvar 2)) (mc (.int 2147483629)))) (mret (m2 fdivD (m2 modD (m2 mulD (mvar 2) (mc (.int 39373))) (mc (.int 2147483587))) (mc (.int 8)))))))
def m_law_stir : MF := runB 3 b_law_stir
def b_law_cells : MS := (mretF (mcut (mcat (mcut (bvar 0) onone (osome (mvar 1))) (sized (acons (mc (.int 0)) anil))) onone (osome (call1 max2F (acons (mc (.int 1)) (acons (call1 min2F (acons (mvar 1) (acons (mlen (bvar 0)) anil))) anil))))))
def m_law_cells : MF := runB 2 b_law_cells
def b_law_row_f0 : MS := (mseq (mset 9 (m2 modD (mcall m_law_stir (acons (mvar 0) (acons (m2 addD (mc (.int 10)) (mvar 8)) anil))) (mvar 4))) (mseq (mset 7 (m2 subD (m2 addD (mvar 7) (mvar 9)) (m2 fdivD (mvar 4) (mc (.int 2))))) (mseq (mset 10 (mlst (sized (acons (m2 subD (mvar 9) (m2 fdivD (mvar 4) (mc (.int 2)))) (acons (m2 addD (mvar 8) (m2 fdivD (mvar 9) (mc (.int 2)))) (acons (m2 subD (m2 subD (mc (.int 0)) (mvar 8)) (m2 fdivD (mvar 9) (mc (.int 2)))) (acons (mix (sized (acons (mvar 9) (acons (m2 subD (mc (.int 0)) (mvar 9)) anil))) (m2 modD (mvar 8) (mc (.int 2)))) anil))))))) (mseq (mset 10 (mlst (mcat (bvar 10) (sized (acons (m2 addD (mvar 9) (m2 mulD (m2 modD (m2 fdivD (mvar 8) (mvar 5)) (mc (.int 2))) (mvar 4))) (acons (mvar 4) (acons (m2 addD (m2 mulD (m2 subD (mvar 9) (m2 fdivD (mvar 4) (mc (.int 2)))) (m2 powD (mc (.int 10)) (mc (.int 23)))) (m2 modD (mcall m_law_stir (acons (mvar 0) (acons (m2 addD (mc (.int 10)) (mvar 8)) anil))) (mc (.int 3)))) anil))))))) (mapp 6 (mix (mcat (bvar 10) (sized (acons (mvar 7) anil))) (mvar 3)))))))
def b_law_row : MS := (mseq (mset 2 (m2 modD (mcall m_law_stir (acons (mvar 0) (acons (mc (.int 0)) anil))) (mix (sized (acons (mc (.int 4)) (acons (mc (.int 13)) (acons (mc (.int 41)) (acons (m2 addD (mvar 1) (mc (.int 1))) anil))))) (m2 modD (mcall m_law_stir (acons (mvar 0) (acons (mc (.int 1)) anil))) (mc (.int 4)))))) (mseq (mset 3 (m2 modD (mcall m_law_stir (acons (mvar 0) (acons (mc (.int 2)) anil))) (mc (.int 8)))) (mseq (mset 4 (mix (sized (acons (mc (.int 2)) (acons (mc (.int 5)) (acons (mc (.int 50)) (acons (m2 powD (mc (.int 10)) (mc (.int 6))) anil))))) (m2 modD (mcall m_law_stir (acons (mvar 0) (acons (mc (.int 3)) anil))) (mc (.int 4))))) (mseq (mset 5 (m2 addD (mc (.int 1)) (m2 modD (mcall m_law_stir (acons (mvar 0) (acons (mc (.int 4)) anil))) (mc (.int 9))))) (mseq (msetF 6 (sized anil)) (mseq (mset 7 (mc (.int 0))) (mseq (mfor (mlist rng1 (acons (call1 min2F (acons (mvar 2) (acons (mvar 1) anil))) anil)) (.nm 8) b_law_row_f0) (mretO 6))))))))
def m_law_row : MF := runB 11 b_law_row
def b_law_step : MS := (mseq (mset 1 (mlst (sized (acons (mc (.int 1)) (acons (m2 addD (mc (.int 1)) (m2 modD (mcall m_law_stir (acons (mvar 0) (acons (mc (.int 5)) anil))) (mc (.int 9)))) (acons (m2 addD (mc (.int 1)) (m2 modD (mcall m_law_stir (acons (mvar 0) (acons (mc (.int 6)) anil))) (mc (.int 1000)))) anil)))))) (mret (mix (mcat (bvar 1) (sized (acons (m2 addD (mc (.int 1)) (m2 mulD (m2 modD (mcall m_law_stir (acons (mvar 0) (acons (mc (.int 6)) anil))) (m2 powD (mc (.int 10)) (mc (.int 6)))) (m2 powD (mc (.int 10)) (mc (.int 23))))) anil))) (m2 modD (mcall m_law_stir (acons (mvar 0) (acons (mc (.int 7)) anil))) (mc (.int 4))))))
def m_law_step : MF := runB 2 b_law_step
def b_law_same_v0 : MS := (mseq (mif (mtru (misi "str" (mvar 1))) (mret (mand (misi "str" (mvar 0)) (m2 eqSD (mvar 0) (mvar 1)))) mnext) (mseq (mif (mtru (misi2 "list" "tuple" (mvar 1))) (mseq (mif (cor (mtest (m2 neSD (misi "list" (mvar 0)) (misi "list" (mvar 1)))) (cnot (mtru (misi2 "list" "tuple" (mvar 0))))) (mret (mc (.bl false))) mnext) (mseq (mif (mtest (m2 neSD (call1 lenF (acons (mvar 0) anil)) (call1 lenF (acons (mvar 1) anil)))) (mret (mc (.bl false))) mnext) mnever)) mnext) (mret (mand (misi "int" (mvar 0)) (mand (m1 notD (misi "bool" (mvar 0))) (m2 eqSD (mvar 0) (mvar 1)))))))
def m_law_same_v0 : MF := runB 2 b_law_same_v0
def b_law_same_v1 : MS := (mseq (mif (mtru (misi "str" (mvar 1))) (mret (mand (misi "str" (mvar 0)) (m2 eqSD (mvar 0) (mvar 1)))) mnext) (mseq (mif (mtru (misi2 "list" "tuple" (mvar 1))) (mseq (mif (cor (mtest (m2 neSD (misi "list" (mvar 0)) (misi "list" (mvar 1)))) (cnot (mtru (misi2 "list" "tuple" (mvar 0))))) (mret (mc (.bl false))) mnext) (mseq (mif (mtest (m2 neSD (call1 lenF (acons (mvar 0) anil)) (call1 lenF (acons (mvar 1) anil)))) (mret (mc (.bl false))) mnext) (mret (meqB false (mcomp [none, none] (mlist zip2 (acons (mvar 0) (acons (mvar 1) anil))) (.tp [0, 1]) (cnot (mtru (mcall m_law_same_v0 (acons (mvar 0) (acons (mvar 1) anil))))) (mc (.int 1))) (sized anil))))) mnext) (mret (mand (misi "int" (mvar 0)) (mand (m1 notD (misi "bool" (mvar 0))) (m2 eqSD (mvar 0) (mvar 1)))))))
def m_law_same_v1 : MF := runB 2 b_law_same_v1
def b_law_due_f0 : MS := (mseq (mset 5 (mlst (mcompO [none, some 3, some 0, some 1, some 4] (mlist rng1 (acons (mlen (bvar 2)) anil)) (.nm 0) (mtest (m2 geD (mix (bvar 2) (m2 subD (m2 subD (mlen (bvar 2)) (mc (.int 1))) (mvar 0))) (m2 addD (mix (bvar 2) (mvar 4)) (mvar 3)))) (mix (bvar 1) (mvar 0))))) (mseq (mset 6 (mlst (mcompO [none, some 2, some 0, some 1, some 4] (mlist rng1 (acons (mlen (bvar 2)) anil)) (.nm 0) (mtest (m2 leD (mix (bvar 2) (m2 subD (m2 subD (mlen (bvar 2)) (mc (.int 1))) (mvar 0))) (m2 subD (mix (bvar 2) (mvar 4)) (mvar 3)))) (mix (bvar 1) (mvar 0))))) (mseq (mapp 2 (m2 addD (mc (.int 1)) (mmaxL (mcat (sized (acons (mc (.int 0)) anil)) (bvar 5))))) (mapp 3 (m2 addD (mc (.int 1)) (mmaxL (mcat (sized (acons (mc (.int 0)) anil)) (bvar 6))))))))
def b_law_due_f1 : MS := (mseq (mset 10 (mlst (bvar 9))) (mseq (mif (mtest (meqB true (bvar 7) (sized anil))) (mset 10 (mlst (sized (acons (mand (mix (bvar 9) (mc (.int 1))) (m2 leD (mix (bvar 0) (mvar 4)) (m2 subD (mix (bvar 0) (mix (bvar 7) (m1 negD (mc (.int 1))))) (mvar 1)))) (acons (mand (mix (bvar 9) (mc (.int 0))) (m2 geD (mix (bvar 0) (mvar 4)) (m2 addD (mix (bvar 0) (mix (bvar 7) (m1 negD (mc (.int 1))))) (mvar 1)))) anil))))) mnext) (mseq (mset 10 (mlst (sized (acons (mand (mix (bvar 10) (mc (.int 0))) (m2 eqSD (mix (bvar 2) (mvar 4)) (mvar 8))) (acons (mand (mix (bvar 10) (mc (.int 1))) (m2 eqSD (mix (bvar 3) (mvar 4)) (mvar 8))) anil))))) (mif (cand (mtest (m2 gtD (mvar 8) (mc (.int 0)))) (mtest (m2 (inD false) (mc (.bl true)) (mvar 10)))) (mseq (mapp 7 (mvar 4)) (mseq (mset 9 (mvar 10)) (mset 8 (m2 subD (mvar 8) (mc (.int 1)))))) mnext))))
def b_law_due_r2 : MS := (mfreeze 2 (mfreeze 3 (mseq (msetF 2 (mrev (bvar 2) (osome (m1 negD (mc (.int 1)))))) (mseq (msetF 3 (mrev (bvar 3) (osome (m1 negD (mc (.int 1)))))) (mseq (msetF 7 (sized anil)) (mseq (mset 8 (mmaxL (mcat (mcat (sized (acons (mc (.int 0)) anil)) (bvar 2)) (bvar 3)))) (mseq (mset 9 (mlst (sized (acons (mc (.bl true)) (acons (mc (.bl true)) anil))))) (mseq (mfor (mlist rng1 (acons (mlen (bvar 0)) anil)) (.nm 4) b_law_due_f1) (mretO 7)))))))))
def b_law_due : MS := (mseq (msetF 2 (sized anil)) (mseq (msetF 3 (sized anil)) (mseq (mfor (mlist rng3 (acons (m2 subD (mlen (bvar 0)) (mc (.int 1))) (acons (m1 negD (mc (.int 1))) (acons (m1 negD (mc (.int 1))) anil)))) (.nm 4) b_law_due_f0) b_law_due_r2)))
def m_law_due : MF := runB 11 b_law_due
def b_law_f0 : MS := (mseq (msetN 7 5 m_longest_v9 (acons (mvar 3) anil)) (mseq (mif (cor (cnot (mtru (mborT 7 (mcall m_law_same_v1 (acons (mvar 7) (acons (mvar 4) anil)))))) (cor (cnot (mtru (mcall m_law_same_v1 (acons (mborT 5 (mcall m_how_long (acons (mvar 5) (acons (mvar 3) anil)))) (acons (mlen (bvar 4)) anil))))) (mtest (meqB true (bvar 5) (bvar 2))))) (mret (mc (.bl false))) mnext) (mapp 7 (mc (.int 0)))))
def b_law_f1 : MS := (mseq (mset 2 (mcall m_law_row (acons (mvar 1) (acons (mc (.int 300)) anil)))) (mseq (mset 3 (mcall m_law_step (acons (mvar 1) anil))) (mseq (mset 4 (mcall m_law_due (acons (mvar 2) (acons (mvar 3) anil)))) (mseq (msetF 5 (bvar 2)) (mfor (mlist rng1 (acons (mc (.int 2)) anil)) (.nm 6) b_law_f0)))))
def b_law : MS := (mseq (mfor (aslst (mcall m_law_cells (acons (mvar 0) (acons (mc (.int 2)) anil)))) (.nm 1) b_law_f1) (mret (mc (.bl true))))
def m_law : MF := runB 8 b_law
end
end Lw

set_option Elab.async false
set_option linter.all false
set_option maxRecDepth 100000
set_option maxHeartbeats 4000000
namespace Lw
open PySem L2
theorem eqS_ii (i j : Int) : eqS (.int i) (.int j) = some (i == j) := rfl
theorem eqS_bb (i j : Bool) : eqS (.bl i) (.bl j) = some (i == j) := rfl
theorem eqS_ss (i j : Str) : eqS (.str i) (.str j) = some (i == j) := rfl
theorem eqS_nn : eqS .non .non = some true := rfl
theorem eqS_nb (j : Bool) : eqS .non (.bl j) = some false := rfl
theorem eqS_bn (j : Bool) : eqS (.bl j) .non = some false := rfl
theorem eqS_ni (j : Int) : eqS .non (.int j) = some false := rfl
theorem eqS_in (j : Int) : eqS (.int j) .non = some false := rfl
local macro_rules | `(tactic| simp_arith [$ls,*]) => `(tactic| simp (config := {decide := true, implicitDefEqProofs := false}) only [runB, startS, List.map_cons, List.map_nil, List.length_cons, List.length_nil, List.replicate, List.cons_append, List.nil_append, mvar, bvar, mc, mlst, aslst, m2, mtest, subD, mulD, fdivD, modD, powD, shlD, shrD, andD, ltD, leD, gtD, geD, eqSD, neSD, eqS_ii, eqS_bb, eqS_ss, eqS_nn, eqS_nb, eqS_bn, eqS_ni, eqS_in, m1, negD, notD, mand, mor, mtru, truD, cand, cor, cnot, mite, anil, acons, sized, mtup, mlen, mix, onone, osome, mcut, mcat, addD, call1, lenF, absF, max2F, min2F, two2, intF, mnext, mseq, mif, mnever, mbreak, mcont, mset, msetF, maug, mexpr, mret, mretF, mretO, mretN, mapp, msetix, mfreeze, masg, mmeth, mmeth0, strM, mcutS, strF, intTF, joinF, startsF, remPF, splitF, addSD, mlist, zip2, zip3, enum1, cyes, mcall, mcallF, meqB, misi, mrev, msetix2, tyD, int2, bl2, tgD, setAll, Option.bind_some, Option.map_some, Option.bind_none, Option.map_none, List.getElem?_cons_zero, List.getElem?_cons_succ, List.set_cons_zero, List.set_cons_succ, List.isEmpty_cons, List.isEmpty_nil, Bool.not_true, Bool.not_false, $ls,*])
def stir (c k : Int) : Int := if 10 ^ 18 ≤ c then (c - 10 ^ 18) / 2 ^ (28 * k).toNat % 2 ^ 28 else
  (((c + 1013 * k + 1) * 16807 % 2147483647) * ((c + 1013 * k + 1) * 16807 % 2147483647) % 2147483629) * 39373 % 2147483587 / 8
theorem stir_nonneg (c k : Int) : 0 ≤ stir c k := by
  unfold stir
  split
  · exact Int.emod_nonneg _ (by decide)
  · exact Int.ediv_nonneg (Int.emod_nonneg _ (by decide)) (by decide)
theorem mulOk_r (i j : Int) (h1 : -(2 ^ 64) < j) (h2 : j < 2 ^ 64) : mulOk i j = true := by
  unfold mulOk; simp only [h1, h2, decide_true, Bool.and_self, Bool.or_true]
theorem mulOk_l (i j : Int) (h1 : -(2 ^ 64) < i) (h2 : i < 2 ^ 64) : mulOk i j = true := by
  unfold mulOk; simp only [h1, h2, decide_true, Bool.and_self, Bool.true_or]
theorem modOk_of (i j : Int) (h : 0 < j) : modOk i j = true := by unfold modOk; simp only [h, decide_true]
theorem seqI {x y : MS} {ρ ρ' : Ro} {o : Option Out} (h : x ρ = some (.nx ρ')) (h2 : y ρ' = o) : mseq x y ρ = o := by
  unfold mseq; rw [h]; exact h2
def stepO {α : Type} (I : List α → Ro → Prop) (Q : Out → Prop) (ds : List α) : Out → Prop
  | .nx ρ => I ds ρ | .ct ρ => I ds ρ | .bk ρ => Q (.nx ρ) | .rt d => Q (.rt d) | .rf es => Q (.rf es) | .rp d es => Q (.rp d es) | .rg d p r => Q (.rg d p r) | .rgf d p r => Q (.rgf d p r)
theorem forD_post {α : Type} {g : Tg} {body : MS} {f : α → D} (I : List α → Ro → Prop) (Q : Out → Prop)
    (hs : ∀ d ds ρ, I (d :: ds) ρ → ∃ ρ1 o, tgD g (f d) ρ = some ρ1 ∧ body ρ1 = some o ∧ stepO I Q ds o) (hd : ∀ ρ, I [] ρ → Q (.nx ρ)) :
    ∀ (ds : List α) (ρ : Ro), I ds ρ → ∃ o, forD g body (ds.map f) ρ = some o ∧ Q o
  | [], ρ, h => ⟨.nx ρ, rfl, hd ρ h⟩
  | d :: ds, ρ, h => by
    obtain ⟨ρ1, o, h1, h2, h3⟩ := hs d ds ρ h
    rw [List.map_cons]
    unfold forD
    rw [h1]
    simp only [h2]
    cases o with
    | nx ρ2 => exact forD_post I Q hs hd ds ρ2 h3
    | ct ρ2 => exact forD_post I Q hs hd ds ρ2 h3
    | bk ρ2 => exact ⟨_, rfl, h3⟩
    | rt d => exact ⟨_, rfl, h3⟩
    | rf d => exact ⟨_, rfl, h3⟩
    | rp d es => exact ⟨_, rfl, h3⟩
    | rg d p r => exact ⟨_, rfl, h3⟩
    | rgf d p r => exact ⟨_, rfl, h3⟩
theorem compD_map {α : Type} {g : Tg} {c : MB} {elt : ME} {f : α → D} {G : α → D} (I : List α → Ro → Prop)
    (hs : ∀ d ds ρ, I (d :: ds) ρ → ∃ ρ1, tgD g (f d) ρ = some ρ1 ∧ c ρ1 = some true ∧ elt ρ1 = some (G d) ∧ I ds ρ1) :
    ∀ (ds : List α) (ρ : Ro) (acc : List D), I ds ρ → acc.length + ds.length ≤ sizeLine → compD g c elt (ds.map f) ρ acc = some (acc ++ ds.map G)
  | [], ρ, acc, h, hl => by simp [compD]
  | d :: ds, ρ, acc, h, hl => by
    obtain ⟨ρ1, h1, h2, h3, h4⟩ := hs d ds ρ h
    rw [List.map_cons]
    unfold compD
    rw [h1]
    simp only [h2, h3]
    rw [List.length_cons] at hl
    rw [if_pos (by omega), compD_map I hs ds ρ1 _ h4 (by simp; omega)]
    simp
def cutI {α : Type} (xs : List α) (lo hi : Option Int) : List α := (xs.drop (HT.sIx xs.length 0 lo)).take (HT.sIx xs.length xs.length hi - HT.sIx xs.length 0 lo)
theorem cutL_map {α : Type} (f : α → D) (xs : List α) (lo hi : Option Int) : cutL (xs.map f) lo hi = (cutI xs lo hi).map f := by
  unfold cutL cutI; rw [List.length_map, ← List.map_drop, ← List.map_take]
theorem cutI_to {α : Type} (xs : List α) (k : Nat) : cutI xs none (some (k : Int)) = xs.take k := by
  unfold cutI
  rw [HT.sIx_nat, HT.sIx_none]
  simp
theorem atI_map {α : Type} (f : α → D) (xs : List α) (k : Int) (h0 : 0 ≤ k) (h1 : k < xs.length) (dflt : α) : atI (xs.map f) k = some (f (xs.getD k.toNat dflt)) := by
  unfold atI ixN
  rw [List.length_map, if_pos h0, if_pos h1]
  have hl : k.toNat < xs.length := by omega
  simp [List.getElem?_map, hl]
theorem atI_last {α : Type} (f : α → D) (xs : List α) (x : α) : atI ((xs ++ [x]).map f) (-1) = some (f x) := by
  unfold atI ixN
  rw [List.length_map, if_neg (by decide), if_pos (by simp; omega)]
  have e : (-1 + ((xs ++ [x]).length : Int)).toNat = xs.length := by simp; omega
  rw [e]
  simp
theorem runB_rt {n : Nat} {m : MS} {ds : List D} {d : D} (h : m (startS n ds) = some (.rt d)) : runB n m ds = some (.sh d) := by unfold runB; rw [h]
theorem runB_rf {n : Nat} {m : MS} {ds : List D} {d : List D} (h : m (startS n ds) = some (.rf d)) : runB n m ds = some (.fr d) := by unfold runB; rw [h]
def after (rest : MS) : Out → Option Out
  | .nx ρ => rest ρ | .bk ρ => some (.bk ρ) | .ct ρ => some (.ct ρ) | .rt d => some (.rt d) | .rf d => some (.rf d) | .rp d es => some (.rp d es) | .rg d p r => some (.rg d p r) | .rgf d p r => some (.rgf d p r)
theorem seq_after {x y : MS} {ρ : Ro} {o : Out} (h : x ρ = some o) : mseq x y ρ = after y o := by
  unfold mseq; rw [h]; cases o <;> rfl
theorem max_if (i j : Int) : (if j > i then j else i) = max i j := by omega
theorem min_if (i j : Int) : (if j < i then j else i) = min i j := by omega
theorem size_big : 1000000 ≤ sizeLine := by rw [show sizeLine = 2 ^ 24 from rfl]; decide
theorem le_size {n : Nat} (h : n ≤ 1000000) : n ≤ sizeLine := Nat.le_trans h size_big
theorem range_cons (j n : Nat) (h : j < n) : List.range' j (n - j) = j :: List.range' (j + 1) (n - (j + 1)) := by
  have : n - j = (n - (j + 1)) + 1 := by omega
  rw [this, List.range'_succ]
theorem mod_cases {x n : Int} (hn : 0 < n) : 0 ≤ x % n ∧ x % n < n := ⟨Int.emod_nonneg _ (by omega), Int.emod_lt_of_pos _ hn⟩
def Run (m : MS) (ρ : Ro) (R : Out → Prop) : Prop := ∃ o, m ρ = some o ∧ R o
def afterR (rest : MS) (R : Out → Prop) : Out → Prop
  | .nx ρ => Run rest ρ R | .bk ρ => R (.bk ρ) | .ct ρ => R (.ct ρ) | .rt d => R (.rt d) | .rf d => R (.rf d) | .rp d es => R (.rp d es) | .rg d p r => R (.rg d p r) | .rgf d p r => R (.rgf d p r)
theorem run_seq {x y : MS} {ρ ρ' : Ro} {R : Out → Prop} (h : x ρ = some (.nx ρ')) (h2 : Run y ρ' R) : Run (mseq x y) ρ R := by
  obtain ⟨o, e, r⟩ := h2
  exact ⟨o, seqI h e, r⟩
theorem run_mseq {x y : MS} {ρ : Ro} {R : Out → Prop} (h : Run x ρ (afterR y R)) : Run (mseq x y) ρ R := by
  obtain ⟨o, e, r⟩ := h
  cases o with
  | nx ρ' => exact run_seq e r
  | bk ρ' => exact ⟨_, seq_after e, r⟩
  | ct ρ' => exact ⟨_, seq_after e, r⟩
  | rt d => exact ⟨_, seq_after e, r⟩
  | rf d => exact ⟨_, seq_after e, r⟩
  | rp d es => exact ⟨_, seq_after e, r⟩
  | rg d p' r' => exact ⟨_, seq_after e, r⟩
  | rgf d p' r' => exact ⟨_, seq_after e, r⟩
theorem run_for {α : Type} {mi : ML} {g : Tg} {body : MS} {ρ : Ro} {f : α → D} (ds : List α) (hi : mi ρ = some (ds.map f)) (I : List α → Ro → Prop) (Q : Out → Prop) (h0 : I ds ρ)
    (hs : ∀ d ds ρ, I (d :: ds) ρ → ∃ ρ1, tgD g (f d) ρ = some ρ1 ∧ Run body ρ1 (stepO I Q ds)) (hd : ∀ ρ, I [] ρ → Q (.nx ρ)) : Run (mfor mi g body) ρ Q := by
  obtain ⟨o, e, q⟩ := forD_post (g := g) (body := body) I Q (fun d ds ρ h => by obtain ⟨ρ1, a, o, b, c⟩ := hs d ds ρ h; exact ⟨ρ1, o, a, b, c⟩) hd ds ρ h0
  exact ⟨o, by unfold mfor; rw [hi]; exact e, q⟩
theorem run_forN {mi : ML} {g : Tg} {body : MS} {ρ : Ro} {f : Nat → D} (n : Nat) (hi : mi ρ = some ((List.range n).map f)) (I : Nat → Ro → Prop) (Q : Out → Prop) (h0 : I 0 ρ)
    (hs : ∀ j ρ, j < n → I j ρ → ∃ ρ1, tgD g (f j) ρ = some ρ1 ∧ Run body ρ1 (stepO (fun (_ : List Unit) ρ => I (j + 1) ρ) Q [])) (hd : ∀ ρ, I n ρ → Q (.nx ρ)) : Run (mfor mi g body) ρ Q := by
  refine run_for (List.range n) hi (I := fun ks ρ => ∃ j, j ≤ n ∧ ks = List.range' j (n - j) ∧ I j ρ) (Q := Q) ⟨0, by omega, by rw [List.range_eq_range']; rfl, h0⟩ ?_ ?_
  · rintro d ds ρ ⟨j, hj, e, h⟩
    have hlt : j < n := by
      rcases Nat.lt_or_ge j n with z | z
      · exact z
      · rw [show n - j = 0 by omega] at e; cases e
    rw [range_cons j n hlt] at e
    obtain ⟨e1, e2⟩ := List.cons.inj e
    subst e1
    obtain ⟨ρ1, a1, o, a2, a3⟩ := hs d ρ hlt h
    refine ⟨ρ1, a1, o, a2, ?_⟩
    cases o with
    | nx r => exact ⟨d + 1, by omega, e2, a3⟩
    | ct r => exact ⟨d + 1, by omega, e2, a3⟩
    | bk r => exact a3
    | rt r => exact a3
    | rf r => exact a3
    | rp r r2 => exact a3
    | rg r r2 r3 => exact a3
    | rgf r r2 r3 => exact a3
  · rintro ρ ⟨j, hj, e, h⟩
    have : n - j = 0 := by
      rcases Nat.eq_zero_or_pos (n - j) with z | z
      · exact z
      · rw [range_cons j n (by omega)] at e; cases e
    have : j = n := by omega
    subst this
    exact hd ρ h
theorem run_freeze {i : Nat} {m : MS} {ρ : Ro} {ds : List D} {R : Out → Prop} (h : ρ[i]? = some (some (.own ds))) (h2 : Run m (ρ.set i (some (.sh (.lst ds)))) R) : Run (mfreeze i m) ρ R := by
  obtain ⟨o, e, r⟩ := h2
  exact ⟨o, by unfold mfreeze; rw [h]; exact e, r⟩
theorem run_if {c : MB} {x y : MS} {ρ : Ro} {R : Out → Prop} {b : Bool} (h : c ρ = some b) (h2 : Run (if b then x else y) ρ R) : Run (mif c x y) ρ R := by
  obtain ⟨o, e, r⟩ := h2
  refine ⟨o, ?_, r⟩
  unfold mif; rw [h]
  cases b <;> exact e
theorem nat_of {x : Int} (h : 0 ≤ x) : ∃ n : Nat, x = n := ⟨x.toNat, by omega⟩
theorem mand_bl {x y : ME} {ρ : Ro} {a b : Bool} (h1 : x ρ = some (.bl a)) (h2 : y ρ = some (.bl b)) : mand x y ρ = some (.bl (a && b)) := by
  unfold mand; rw [h1]; cases a <;> simp [h2]
theorem rangeD_map (lo : Int) (n : Nat) : rangeD lo n = (List.range n).map fun (i : Nat) => D.int (lo + (i : Int)) := rfl
theorem rangeD_li (n : Nat) : rangeD 0 n = ((List.range n).map fun (i : Nat) => (i : Int)).map .int := by
  rw [rangeD_map, List.map_map]
  apply List.map_congr_left
  intro i _
  simp
theorem okR_of {j : Int} (h1 : -(2 ^ 62) ≤ j) (h2 : j < 2 ^ 62) : okR j = true := by unfold okR; simp only [h1, h2, decide_true, Bool.and_self]
theorem rng1_ok {j : Int} (h : okR j = true) : rng1 [.int j] = some (rangeD 0 j.toNat) := by
  unfold rng1
  simp only [h, if_true]
theorem rng2_ok {i j : Int} (h : okR i = true) (h2 : okR j = true) : rng2 [.int i, .int j] = some (rangeD i (j - i).toNat) := by
  unfold rng2
  simp only [h, h2, Bool.and_self, if_true]
theorem runB_rfR {n : Nat} {m : MS} {ds : List D} {P : List D → Prop} (h : Run m (startS n ds) (fun o => ∃ es, o = .rf es ∧ P es)) : ∃ es, runB n m ds = some (.fr es) ∧ P es := by
  obtain ⟨o, e, es, rfl, p⟩ := h
  exact ⟨es, runB_rf e, p⟩
theorem run_retO {i : Nat} {ρ : Ro} {ds : List D} {R : Out → Prop} (h : ρ[i]? = some (some (.own ds))) (h2 : R (.rf ds)) : Run (mretO i) ρ R := ⟨_, by unfold mretO; rw [h], h2⟩
theorem fdivOk_of (i j : Int) (h : 0 < j) (h2 : j < 1073741824) : fdivOk i j = true := by unfold fdivOk; simp only [h, h2, decide_true, Bool.and_self]
theorem at4 (a b c d : Int) (k : Int) (h0 : 0 ≤ k) (h1 : k < 4) : ∃ x, atI [D.int a, .int b, .int c, .int d] k = some (.int x) ∧ (x = a ∨ x = b ∨ x = c ∨ x = d) := by
  have : k = 0 ∨ k = 1 ∨ k = 2 ∨ k = 3 := by omega
  rcases this with h | h | h | h <;> subst h
  · exact ⟨_, rfl, by simp⟩
  · exact ⟨_, rfl, by simp⟩
  · exact ⟨_, rfl, by simp⟩
  · exact ⟨_, rfl, by simp⟩
theorem at8 (a b c d e f g h : Int) (k : Int) (h0 : 0 ≤ k) (h1 : k < 8) : ∃ x, atI [D.int a, .int b, .int c, .int d, .int e, .int f, .int g, .int h] k = some (.int x) := by
  have : k = 0 ∨ k = 1 ∨ k = 2 ∨ k = 3 ∨ k = 4 ∨ k = 5 ∨ k = 6 ∨ k = 7 := by omega
  rcases this with h | h | h | h | h | h | h | h <;> subst h <;> exact ⟨_, rfl⟩
theorem at2 (a b : Int) (k : Int) (h0 : 0 ≤ k) (h1 : k < 2) : ∃ x, atI [D.int a, .int b] k = some (.int x) := by
  have : k = 0 ∨ k = 1 := by omega
  rcases this with h | h <;> subst h <;> exact ⟨_, rfl⟩
theorem eq_nilF (ds : List D) : eqFD false (.lst ds) (.lst []) = some (.bl ds.isEmpty) := by
  unfold eqFD eqF
  cases ds with
  | nil => rfl
  | cons d ds => rfl
theorem eq_nilT (ds : List D) : eqFD true (.lst ds) (.lst []) = some (.bl (!ds.isEmpty)) := by
  unfold eqFD eqF
  cases ds with
  | nil => rfl
  | cons d ds => rfl
theorem zipE_int (n : Nat) : ∀ xs : List Int, zipE (eqF (n + 1)) (xs.map .int) (xs.map .int) = some true
  | [] => rfl
  | x :: xs => by
    rw [List.map_cons, zipE, zipE_int n xs]
    show (some (x == x)).bind _ = _
    rw [beq_self_eq_true]; rfl
theorem eqF_li (n : Nat) (xs : List Int) : eqF (n + 2) (.lst (xs.map .int)) (.lst (xs.map .int)) = some true := by
  show (if _ = _ then zipE (eqF (n + 1)) (xs.map .int) (xs.map .int) else some false) = _
  rw [if_pos rfl, zipE_int]
theorem runB_run {n : Nat} {m : MS} {ds : List D} {d : D} (h : Run m (startS n ds) (fun o => o = .rt d)) : runB n m ds = some (.sh d) := by
  obtain ⟨o, e, rfl⟩ := h
  exact runB_rt e
theorem mcall_fr {f : MF} {m : ML} {ρ : Ro} {ds es : List D} (h : m ρ = some ds) (h2 : f ds = some (.fr es)) : mcall f m ρ = some (.lst es) := by
  unfold mcall; rw [h]; show (match f ds with | some (.sh d) => some d | some (.fr es) => some (D.lst es) | some (.pr d es) => some (.tup [d, .lst es]) | none => none) = _; rw [h2]
theorem mcall_sh {f : MF} {m : ML} {ρ : Ro} {ds : List D} {d : D} (h : m ρ = some ds) (h2 : f ds = some (.sh d)) : mcall f m ρ = some d := by
  unfold mcall; rw [h]; show (match f ds with | some (.sh d) => some d | some (.fr es) => some (D.lst es) | some (.pr d es) => some (.tup [d, .lst es]) | none => none) = _; rw [h2]
theorem acons_ev {x : ME} {r : ML} {ρ : Ro} {d : D} {ds : List D} (h : x ρ = some d) (h2 : r ρ = some ds) : acons x r ρ = some (d :: ds) := by
  unfold acons; rw [h, h2]; rfl
theorem anil_ev {ρ : Ro} : anil ρ = some [] := rfl
theorem at_nat (row : List Int) (i : Nat) (h : i < row.length) : atI (row.map D.int) (i : Int) = some (.int (row.getD i 0)) := by
  have := atI_map D.int row (i : Int) (by omega) (by omega) 0
  rw [Int.toNat_natCast] at this
  exact this
theorem mmaxL_ev {m : ML} {ρ : Ro} {x : Int} {r : List Int} (h : m ρ = some ((x :: r).map .int)) : mmaxL m ρ = some (.int (maxI (x :: r))) := by
  unfold mmaxL; rw [h]; simp only [intsD_map]
theorem compD_filter {α : Type} {g : Tg} {c : MB} {elt : ME} {f : α → D} {p : α → Bool} {G : α → D} (I : List α → Ro → Prop)
    (hs : ∀ d ds ρ, I (d :: ds) ρ → ∃ ρ1, tgD g (f d) ρ = some ρ1 ∧ c ρ1 = some (p d) ∧ (p d = true → elt ρ1 = some (G d)) ∧ I ds ρ1) :
    ∀ (ds : List α) (ρ : Ro) (acc : List D), I ds ρ → acc.length + ds.length ≤ sizeLine → compD g c elt (ds.map f) ρ acc = some (acc ++ (ds.filter p).map G)
  | [], ρ, acc, h, hl => by simp [compD]
  | d :: ds, ρ, acc, h, hl => by
    obtain ⟨ρ1, h1, h2, h3, h4⟩ := hs d ds ρ h
    rw [List.length_cons] at hl
    rw [List.map_cons]
    unfold compD
    rw [h1]
    simp only [h2]
    cases hp : p d with
    | false =>
      simp only
      rw [compD_filter I hs ds ρ1 acc h4 (by omega), List.filter_cons, hp]
      rfl
    | true =>
      simp only [h3 hp]
      rw [if_pos (by omega), compD_filter I hs ds ρ1 _ h4 (by simp; omega), List.filter_cons, hp]
      simp
theorem eqB_nil {m : ML} {ρ : Ro} {ds : List D} (h : m ρ = some ds) : mtest (meqB true m (sized anil)) ρ = some (!ds.isEmpty) := by
  have i0 : 0 ≤ sizeLine := Nat.zero_le _
  have e : sized anil ρ = some [] := by simp_arith [i0, if_true]
  unfold mtest meqB
  rw [h, e]
  simp only [Option.bind_some, eq_nilT]
theorem cor_ev {x y : MB} {ρ : Ro} {a b : Bool} (h1 : x ρ = some a) (h2 : y ρ = some b) : cor x y ρ = some (a || b) := by
  unfold cor; rw [h1]; cases a <;> simp [h2]
theorem cand_ev {x y : MB} {ρ : Ro} {a b : Bool} (h1 : x ρ = some a) (h2 : y ρ = some b) : cand x y ρ = some (a && b) := by
  unfold cand; rw [h1]; cases a <;> simp [h2]
theorem mset_ev {i : Nat} {x : ME} {ρ : Ro} {d : D} (h : x ρ = some d) : mset i x ρ = some (.nx (ρ.set i (some (.sh d)))) := by unfold mset; rw [h]; rfl
theorem mlst_ev {m : ML} {ρ : Ro} {ds : List D} (h : m ρ = some ds) : mlst m ρ = some (.lst ds) := by unfold mlst; rw [h]; rfl
theorem sized_ev {m : ML} {ρ : Ro} {ds : List D} (h : m ρ = some ds) (hz : ds.length ≤ sizeLine) : sized m ρ = some ds := by
  unfold sized; rw [h]; show (if ds.length ≤ sizeLine then some ds else none) = _; rw [if_pos hz]
theorem mix_ev {m : ML} {i : ME} {ρ : Ro} {ds : List D} {k : Int} {d : D} (h1 : m ρ = some ds) (h2 : i ρ = some (.int k)) (h3 : atI ds k = some d) : mix m i ρ = some d := by
  unfold mix; rw [h1, h2]; exact h3
theorem eqB_nilD {m : ML} {ρ : Ro} {ds : List D} (h : m ρ = some ds) (neg : Bool) : meqB neg m (sized anil) ρ = some (.bl (if neg then !ds.isEmpty else ds.isEmpty)) := by
  have i0 : 0 ≤ sizeLine := Nat.zero_le _
  have e : sized anil ρ = some [] := by simp_arith [i0, if_true]
  unfold meqB
  rw [h, e]
  cases neg
  · simp only [Option.bind_some, eq_nilF]; rfl
  · simp only [Option.bind_some, eq_nilT]; rfl
theorem aslst_ev {m : ME} {ρ : Ro} {ds : List D} (h : m ρ = some (.lst ds)) : aslst m ρ = some ds := by unfold aslst; rw [h]
theorem mcat_ev {x y : ML} {ρ : Ro} {ds es : List D} (h1 : x ρ = some ds) (h2 : y ρ = some es) (hz : ds.length + es.length ≤ sizeLine) : mcat x y ρ = some (ds ++ es) := by
  unfold mcat; rw [h1, h2]; show (if ds.length + es.length ≤ sizeLine then some (ds ++ es) else none) = _; rw [if_pos hz]
theorem mtup_ev {m : ML} {ρ : Ro} {ds : List D} (h : m ρ = some ds) (hz : ds.length ≤ sizeLine) : mtup m ρ = some (.tup ds) := by
  unfold mtup; rw [sized_ev h hz]; rfl
theorem mret_ev {x : ME} {ρ : Ro} {d : D} (h : x ρ = some d) : mret x ρ = some (.rt d) := by unfold mret; rw [h]; rfl
theorem ks_ls : kitB "list" "str" = some false := by decide +kernel
theorem ks_is : kitB "int" "str" = some false := by decide +kernel
theorem ks_ll : kitB "list" "list" = some true := by decide +kernel
theorem ks_ii : kitB "int" "int" = some true := by decide +kernel
theorem ks_ib : kitB "int" "bool" = some false := by decide +kernel
theorem k2_i : kitB2 "int" "list" "tuple" = some false := by decide +kernel
theorem k2_l : kitB2 "list" "list" "tuple" = some true := by decide +kernel
theorem zip_self {α : Type} (f : α → D) : ∀ xs : List α, List.zipWith (fun d e => D.tup [d, e]) (xs.map f) (xs.map f) = xs.map fun x => D.tup [f x, f x]
  | [] => rfl
  | x :: xs => by rw [List.map_cons, List.zipWith_cons_cons, zip_self f xs]; rfl
theorem filter_none {α : Type} (xs : List α) : xs.filter (fun _ => false) = [] := by
  induction xs with
  | nil => rfl
  | cons x xs ih => rw [List.filter_cons]; exact ih
theorem comp_none {α : Type} {f : α → D} {mi : ML} {c : MB} {ρ : Ro} (xs : List α) (hi : mi ρ = some (xs.map fun x => D.tup [f x, f x])) (hl : xs.length ≤ 1000) (hc : ∀ x ∈ xs, c [some (.sh (f x)), some (.sh (f x))] = some false) :
    meqB false (mcomp [none, none] mi (.tp [0, 1]) c (mc (.int 1))) (sized anil) ρ = some (.bl true) := by
  have e : mcomp [none, none] mi (.tp [0, 1]) c (mc (.int 1)) ρ = some [] := by
    unfold mcomp
    rw [hi]
    refine (compD_filter (f := fun x => D.tup [f x, f x]) (p := fun _ => false) (G := fun _ => D.int 1) (fun ys ρ => (∀ x ∈ ys, x ∈ xs) ∧ ∃ a b, ρ = [a, b])
      (by
        rintro x ds ρ ⟨hx, a, b, rfl⟩
        exact ⟨_, rfl, hc x (hx x (by simp)), fun z => (by cases z), fun y hy => hx y (by simp [hy]), _, _, rfl⟩) xs _ [] ⟨fun _ h => h, none, none, rfl⟩ (le_size (by simp; omega))).trans ?_
    rw [filter_none]; rfl
  rw [eqB_nilD e false]; rfl
end Lw

set_option Elab.async false
set_option linter.all false
set_option maxRecDepth 100000
set_option maxHeartbeats 4000000
namespace Lw
open PySem L2
local macro_rules | `(tactic| simp_arith [$ls,*]) => `(tactic| simp (config := {decide := true, implicitDefEqProofs := false}) only [runB, startS, List.map_cons, List.map_nil, List.length_cons, List.length_nil, List.replicate, List.cons_append, List.nil_append, mvar, bvar, mc, mlst, aslst, m2, mtest, subD, mulD, fdivD, modD, powD, shlD, shrD, andD, ltD, leD, gtD, geD, eqSD, neSD, eqS_ii, eqS_bb, eqS_ss, eqS_nn, eqS_nb, eqS_bn, eqS_ni, eqS_in, m1, negD, notD, mand, mor, mtru, truD, cand, cor, cnot, mite, anil, acons, sized, mtup, mlen, mix, onone, osome, mcut, mcat, addD, call1, lenF, absF, max2F, min2F, two2, intF, mnext, mseq, mif, mnever, mbreak, mcont, mset, msetF, maug, mexpr, mret, mretF, mretO, mretN, mapp, msetix, mfreeze, masg, mmeth, mmeth0, strM, mcutS, strF, intTF, joinF, startsF, remPF, splitF, addSD, mlist, zip2, zip3, enum1, cyes, mcall, mcallF, meqB, misi, mrev, msetix2, tyD, int2, bl2, tgD, setAll, Option.bind_some, Option.map_some, Option.bind_none, Option.map_none, List.getElem?_cons_zero, List.getElem?_cons_succ, List.set_cons_zero, List.set_cons_succ, List.isEmpty_cons, List.isEmpty_nil, Bool.not_true, Bool.not_false, $ls,*])
theorem refuse_step_eq (step : Int) (h : 1 ≤ step) : m_refuse_step [.int step] = some (.sh .non) := by
  have : ¬ step < 1 := by omega
  unfold m_refuse_step b_refuse_step
  simp_arith [this, decide_false]
theorem stir_eq (c k : Int) (hk : 0 ≤ k) : m_law_stir [.int c, .int k] = some (.sh (.int (stir c k))) := by
  have hp : ((10 : Int) ^ (18 : Int).toNat) = 10 ^ 18 := rfl
  have hp2 : ((2 : Int) ^ (28 : Int).toNat) = 2 ^ 28 := rfl
  have o1 : powOk 10 18 = true := by decide
  have o2 : powOk 2 28 = true := by decide
  have o3 : mulOk 28 k = true := mulOk_l _ _ (by decide) (by decide)
  have o4 : mulOk 1013 k = true := mulOk_l _ _ (by decide) (by decide)
  have o5 : mulOk (c + 1013 * k + 1) 16807 = true := mulOk_r _ _ (by decide) (by decide)
  have o6 : shrOk (c - 10 ^ 18) (28 * k) = true := by unfold shrOk; exact decide_eq_true (by omega)
  have o7 : mulOk ((c + 1013 * k + 1) * 16807 % 2147483647) ((c + 1013 * k + 1) * 16807 % 2147483647) = true := mulOk_l _ _ (by omega) (by omega)
  have o8 : mulOk (((c + 1013 * k + 1) * 16807 % 2147483647) * ((c + 1013 * k + 1) * 16807 % 2147483647) % 2147483629) 39373 = true := mulOk_r _ _ (by decide) (by decide)
  have q1 : ∀ i, modOk i (2 ^ 28) = true := fun i => modOk_of _ _ (by decide)
  have q2 : ∀ i, modOk i 2147483647 = true := fun i => modOk_of _ _ (by decide)
  have q3 : ∀ i, modOk i 2147483629 = true := fun i => modOk_of _ _ (by decide)
  have q4 : ∀ i, modOk i 2147483587 = true := fun i => modOk_of _ _ (by decide)
  have f1 : ∀ i, fdivOk i 8 = true := fun i => by unfold fdivOk; decide
  unfold m_law_stir b_law_stir stir
  by_cases h : 10 ^ 18 ≤ c
  · simp_arith [hp, hp2, o1, o2, o3, o6, q1, h, decide_true, if_true]
  · simp_arith [hp, hp2, o1, o2, o3, o4, o5, o7, o8, q1, q2, q3, q4, f1, h, decide_false, if_true, if_false]
theorem cells_eq (ns : List Int) (many : Nat) (hl : ns.length ≤ 63) : ∃ cs : List Int, m_law_cells [.lst (ns.map .int), .int many] = some (.fr (cs.map .int)) := by
  unfold m_law_cells b_law_cells
  have e1 : cutL (ns.map D.int) none (some (many : Int)) = (ns.take many).map .int := by rw [cutL_map, cutI_to]
  have e2 : [D.int 0] = ([0] : List Int).map .int := rfl
  have g : ((ns.take many).map D.int).length + [D.int 0].length ≤ sizeLine := le_size (by simp; omega)
  have g2 : 1 ≤ sizeLine := le_size (by decide)
  refine ⟨cutI (ns.take many ++ [0]) none (some (max 1 (min (many : Int) (ns.length : Int)))), runB_rf ?_⟩
  simp_arith [e1, g2, if_true, List.length_map, max_if, min_if]
  have g3 : (ns.take many).length + (0 + 1) ≤ sizeLine := le_size (by simp; omega)
  rw [if_pos g3]
  simp_arith []
  rw [e2, ← List.map_append, cutL_map]
theorem step_eq (c : Int) : ∃ s : Int, 1 ≤ s ∧ m_law_step [.int c] = some (.sh (.int s)) := by
  unfold m_law_step b_law_step
  have n5 := stir_nonneg c 5
  have n6 := stir_nonneg c 6
  have n7 := stir_nonneg c 7
  have s5 := stir_eq c 5 (by decide)
  have s6 := stir_eq c 6 (by decide)
  have s7 := stir_eq c 7 (by decide)
  have g3 : 0 + 1 + 1 + 1 ≤ sizeLine := le_size (by decide)
  have g1 : 0 + 1 ≤ sizeLine := le_size (by decide)
  have g4 : 0 + 1 + 1 + 1 + (0 + 1) ≤ sizeLine := le_size (by decide)
  have p6 : (10 : Int) ^ (6 : Int).toNat = 1000000 := by decide
  have p23 : (10 : Int) ^ (23 : Int).toNat = 100000000000000000000000 := by decide
  have o6 : powOk 10 6 = true := by decide
  have o23 : powOk 10 23 = true := by decide
  have mo : ∀ i j : Int, 0 < j → modOk i j = true := modOk_of
  have b6 := mod_cases (x := stir c 6) (show (0 : Int) < 1000000 by decide)
  have mu : mulOk (stir c 6 % 1000000) 100000000000000000000000 = true := mulOk_l _ _ (by omega) (by omega)
  have b7 := mod_cases (x := stir c 7) (show (0 : Int) < 4 by decide)
  have b5 := mod_cases (x := stir c 5) (show (0 : Int) < 9 by decide)
  have b6' := mod_cases (x := stir c 6) (show (0 : Int) < 1000 by decide)
  have main : ∀ k : Int, stir c 7 % 4 = k → ∀ s : D, atI [D.int 1, .int (1 + stir c 5 % 9), .int (1 + stir c 6 % 1000), .int (1 + stir c 6 % 1000000 * 100000000000000000000000)] k = some s → b_law_step (startS 2 [.int c]) = some (.rt s) := by
    intro k hk s hs
    unfold b_law_step
    ((apply seqI; focus (simp_arith [s5, s6, g3, if_true, mo 0 9, modOk_of (stir c 5) 9 (by decide), modOk_of (stir c 6) 1000 (by decide)]; rfl)))
    simp_arith [s5, s6, s7, g1, g4, if_true, modOk_of (stir c 6) 1000000 (by decide), modOk_of (stir c 7) 4 (by decide), p6, p23, o6, o23, mu, hk, hs]
  have : stir c 7 % 4 = 0 ∨ stir c 7 % 4 = 1 ∨ stir c 7 % 4 = 2 ∨ stir c 7 % 4 = 3 := by omega
  rcases this with h | h | h | h
  · exact ⟨_, by decide, runB_rt (main _ h _ rfl)⟩
  · exact ⟨_, by omega, runB_rt (main _ h _ rfl)⟩
  · exact ⟨_, by omega, runB_rt (main _ h _ rfl)⟩
  · exact ⟨_, by omega, runB_rt (main _ h _ rfl)⟩
def envR (c most size kind wide block : Int) (f : List Int) (last : Int) (o8 o9 o10 : Option S) : Ro := [some (.sh (.int c)), some (.sh (.int most)), some (.sh (.int size)), some (.sh (.int kind)), some (.sh (.int wide)), some (.sh (.int block)), some (.own (f.map .int)), some (.sh (.int last)), o8, o9, o10]
theorem row_body (c most size kind wide block : Int) (f : List Int) (last : Int) (j : Nat) (o9 o10 : Option S) (hk0 : 0 ≤ kind) (hk8 : kind < 8) (hw : 0 < wide) (hw6 : wide ≤ 1000000) (hb : 0 < block) (hb9 : block ≤ 9) (hf : f.length < 1000000) (Q : Out → Prop)
    (hQ : ∀ x last o8 o9 o10, Q (.nx (envR c most size kind wide block (f ++ [x]) last o8 o9 o10))) : Run b_law_row_f0 (envR c most size kind wide block f last (some (.sh (.int (j : Int)))) o9 o10) Q := by
  have s1 := stir_eq c (10 + (j : Int)) (by omega)
  have b1 := mod_cases (x := stir c (10 + (j : Int))) hw
  obtain ⟨one, eo⟩ : ∃ k, stir c (10 + (j : Int)) % wide = k := ⟨_, rfl⟩
  rw [eo] at b1
  have p23 : (10 : Int) ^ (23 : Int).toNat = 100000000000000000000000 := by decide
  have o23 : powOk 10 23 = true := by decide
  have i1 : 0 + 1 ≤ sizeLine := le_size (by decide)
  have i2 : 0 + 1 + 1 ≤ sizeLine := le_size (by decide)
  have i3 : 0 + 1 + 1 + 1 ≤ sizeLine := le_size (by decide)
  have i4 : 0 + 1 + 1 + 1 + 1 ≤ sizeLine := le_size (by decide)
  have i7 : 0 + 1 + 1 + 1 + 1 + (0 + 1 + 1 + 1) ≤ sizeLine := le_size (by decide)
  have i8 : 0 + 1 + 1 + 1 + 1 + 1 + 1 + 1 + (0 + 1) ≤ sizeLine := le_size (by decide)
  have d2 : ∀ i, fdivOk i 2 = true := fun i => fdivOk_of _ _ (by decide) (by decide)
  have m2k := mod_cases (x := (j : Int)) (show (0 : Int) < 2 by decide)
  obtain ⟨x2, e2⟩ := at2 one (0 - one) ((j : Int) % 2) m2k.1 m2k.2
  have mb := mod_cases (x := (j : Int) / block) (show (0 : Int) < 2 by decide)
  have mu1 : mulOk ((j : Int) / block % 2) wide = true := mulOk_l _ _ (by omega) (by omega)
  have mu2 : mulOk (one - wide / 2) 100000000000000000000000 = true := mulOk_l _ _ (by omega) (by omega)
  unfold b_law_row_f0 envR
  ((apply run_seq; focus (simp_arith [s1, modOk_of (stir c (10 + (j : Int))) wide hw, if_true, eo]; rfl)))
  ((apply run_seq; focus (simp_arith [d2, if_true]; rfl)))
  ((apply run_seq; focus (simp_arith [d2, if_true, i4, i2, modOk_of (j : Int) 2 (by decide), e2]; rfl)))
  ((apply run_seq; focus (simp_arith [d2, if_true, i3, i7, fdivOk_of (j : Int) block hb (by omega), modOk_of ((j : Int) / block) 2 (by decide), mu1, mu2, p23, o23, s1, modOk_of (stir c (10 + (j : Int))) 3 (by decide)]; rfl)))
  obtain ⟨x8, e8⟩ := at8 (one - wide / 2) ((j : Int) + one / 2) (0 - (j : Int) - one / 2) x2 (one + (j : Int) / block % 2 * wide) wide ((one - wide / 2) * 100000000000000000000000 + stir c (10 + (j : Int)) % 3) (last + one - wide / 2) kind hk0 hk8
  have hl : (f.map D.int).length < sizeLine := by simp; have := size_big; omega
  refine ⟨_, by simp_arith [i1, i8, if_true, e8, hl]; rfl, ?_⟩
  have := fun a b d => hQ x8 (last + one - wide / 2) a b d
  unfold envR at this
  simp only [List.map_append] at this
  exact this _ _ _
theorem row_eq (c : Int) (most : Nat) (hm : most ≤ 300) : ∃ f : List Int, f.length ≤ most ∧ m_law_row [.int c, .int most] = some (.fr (f.map .int)) := by
  suffices h : ∃ es, m_law_row [.int c, .int most] = some (.fr es) ∧ ∃ f : List Int, f.length ≤ most ∧ es = f.map .int by
    obtain ⟨es, e, f, hf, rfl⟩ := h
    exact ⟨f, hf, e⟩
  unfold m_law_row b_law_row
  refine runB_rfR ?_
  have i4 : 0 + 1 + 1 + 1 + 1 ≤ sizeLine := le_size (by decide)
  have i0 : 0 ≤ sizeLine := Nat.zero_le _
  have p6 : (10 : Int) ^ (6 : Int).toNat = 1000000 := by decide
  have o6 : powOk 10 6 = true := by decide
  have b1 := mod_cases (x := stir c 1) (show (0 : Int) < 4 by decide)
  have b2 := mod_cases (x := stir c 2) (show (0 : Int) < 8 by decide)
  have b3 := mod_cases (x := stir c 3) (show (0 : Int) < 4 by decide)
  have b4 := mod_cases (x := stir c 4) (show (0 : Int) < 9 by decide)
  obtain ⟨sz, e1, hs1⟩ := at4 4 13 41 ((most : Int) + 1) (stir c 1 % 4) b1.1 b1.2
  have hsz : 0 < sz := by omega
  have b0 := mod_cases (x := stir c 0) hsz
  ((apply run_seq; focus (simp_arith [stir_eq c 0 (by decide), stir_eq c 1 (by decide), i4, if_true, modOk_of (stir c 1) 4 (by decide), e1, modOk_of (stir c 0) sz hsz]; rfl)))
  ((apply run_seq; focus (simp_arith [stir_eq c 2 (by decide), if_true, modOk_of (stir c 2) 8 (by decide)]; rfl)))
  obtain ⟨wide, e3, hw⟩ := at4 2 5 50 1000000 (stir c 3 % 4) b3.1 b3.2
  ((apply run_seq; focus (simp_arith [stir_eq c 3 (by decide), i4, if_true, modOk_of (stir c 3) 4 (by decide), p6, o6, e3]; rfl)))
  ((apply run_seq; focus (simp_arith [stir_eq c 4 (by decide), if_true, modOk_of (stir c 4) 9 (by decide)]; rfl)))
  ((apply run_seq; focus (simp_arith [i0, if_true]; rfl)))
  ((apply run_seq; focus (simp_arith []; rfl)))
  obtain ⟨n, en⟩ := nat_of (x := min (stir c 0 % sz) (most : Int)) (by omega)
  have hn : n ≤ 300 := by omega
  have hn2 : n ≤ most := by omega
  have k1 : okR (n : Int) = true := okR_of (by omega) (by omega)
  refine run_mseq (run_forN n (f := fun (j : Nat) => D.int (j : Int)) (by simp_arith [min_if, en, rng1_ok k1, Int.toNat_natCast]; rw [rangeD_li, List.map_map]; rfl)
    (I := fun j ρ => ∃ f last o8 o9 o10, f.length = j ∧ ρ = envR c most (stir c 0 % sz) (stir c 2 % 8) wide (1 + stir c 4 % 9) f last o8 o9 o10) _ ⟨[], _, _, _, _, rfl, rfl⟩ ?_ ?_)
  · rintro j ρ hj ⟨f, last, o8, o9, o10, hf, rfl⟩
    refine ⟨_, rfl, row_body c most (stir c 0 % sz) (stir c 2 % 8) wide (1 + stir c 4 % 9) f last j o9 o10 b2.1 b2.2 (by omega) (by omega) (by omega) (by omega) (by omega) _ fun x last o8 o9 o10 => ⟨f ++ [x], last, o8, o9, o10, by simp [hf], rfl⟩⟩
  · rintro ρ ⟨f, last, o8, o9, o10, hf, rfl⟩
    exact run_retO rfl ⟨_, rfl, f, by omega, rfl⟩
theorem mborT_ev {i : Nat} {m : ME} {ρ : Ro} {ds : List D} {d : D} (h : ρ[i]? = some (some (.own ds))) (h2 : m (ρ.set i (some (.sh (.lst ds)))) = some d) (hn : noL d = true) : mborT i m ρ = some d := by
  unfold mborT; rw [h]; simp only; rw [h2]; simp only [hn, if_true]
theorem mtru_bl {x : ME} {ρ : Ro} {b : Bool} (h : x ρ = some (.bl b)) : mtru x ρ = some b := by unfold mtru; rw [h]; rfl
theorem cnot_ev {x : MB} {ρ : Ro} {b : Bool} (h : x ρ = some b) : cnot x ρ = some (!b) := by unfold cnot; rw [h]; rfl
theorem mtest_bl {x : ME} {ρ : Ro} {b : Bool} (h : x ρ = some (.bl b)) : mtest x ρ = some b := by unfold mtest; rw [h]
theorem mif_false {c : MB} {x : MS} {ρ : Ro} (h : c ρ = some false) : mif c x mnext ρ = some (.nx ρ) := by unfold mif; rw [h]; rfl
theorem same0 (a : Int) : m_law_same_v0 [.int a, .int a] = some (.sh (.bl true)) := by
  unfold m_law_same_v0 b_law_same_v0
  refine runB_rt ?_
  ((apply seqI; focus (simp_arith [ks_is]; rfl)))
  ((apply seqI; focus (simp_arith [misi2, k2_i]; rfl)))
  simp_arith [ks_ii, ks_ib, beq_self_eq_true]
theorem same1_lst (xs : List Int) (hl : xs.length ≤ 1000) : m_law_same_v1 [.lst (xs.map .int), .lst (xs.map .int)] = some (.sh (.bl true)) := by
  unfold m_law_same_v1 b_law_same_v1
  refine runB_run ?_
  ((apply run_seq; focus (simp_arith [ks_ls]; rfl)))
  refine run_mseq (run_if (b := true) (by simp_arith [misi2, k2_l]) ?_)
  show Run (mseq _ _) _ _
  ((apply run_seq; focus (simp_arith [ks_ll, misi2, k2_l, eqS_bb, beq_self_eq_true, Bool.not_true, Bool.not_false]; rfl)))
  ((apply run_seq; focus (simp_arith [beq_self_eq_true, Bool.not_true]; rfl)))
  refine ⟨.rt (.bl true), ?_, rfl⟩
  have hc := comp_none (f := D.int) (mi := mlist zip2 (acons (mvar 0) (acons (mvar 1) anil))) (c := cnot (mtru (mcall m_law_same_v0 (acons (mvar 0) (acons (mvar 1) anil))))) (ρ := [some (.sh (.lst (xs.map .int))), some (.sh (.lst (xs.map .int)))]) xs (by simp_arith [zip_self]) hl
    (by
      intro x hx
      unfold cnot mtru
      rw [mcall_sh (acons_ev (d := .int x) rfl (acons_ev (d := .int x) rfl anil_ev)) (same0 x)]; rfl)
  exact mret_ev hc
end Lw

set_option Elab.async false
set_option linter.all false
set_option maxRecDepth 100000
set_option maxHeartbeats 4000000
namespace Lw
open PySem L2
def lx : List Nat → List Nat → Bool
  | [], [] => false
  | [], _ :: _ => true
  | _ :: _, [] => false
  | a :: l, b :: m => decide (a < b) || (a == b && lx l m)
def ahead (l m : List Nat) : Bool := decide (m.length < l.length) || (l.length == m.length && lx l m)
theorem lx_irr : ∀ l, lx l l = false
  | [] => rfl
  | a :: l => by unfold lx; simp [lx_irr l]
theorem lx_trans : ∀ {a b c : List Nat}, lx a b = true → lx b c = true → lx a c = true
  | [], [], _, h, _ => by cases h
  | [], _ :: _, [], _, h => by cases h
  | [], _ :: _, _ :: _, _, _ => rfl
  | _ :: _, [], _, h, _ => by cases h
  | _ :: _, _ :: _, [], _, h => by cases h
  | a :: l, b :: m, c :: k, h1, h2 => by
    unfold lx at *
    simp only [Bool.or_eq_true, Bool.and_eq_true, decide_eq_true_eq, beq_iff_eq] at *
    rcases h1 with h1 | ⟨rfl, h1⟩ <;> rcases h2 with h2 | ⟨rfl, h2⟩
    · exact .inl (by omega)
    · exact .inl h1
    · exact .inl h2
    · exact .inr ⟨rfl, lx_trans h1 h2⟩
theorem lx_tri : ∀ (a b : List Nat), a = b ∨ lx a b = true ∨ lx b a = true
  | [], [] => .inl rfl
  | [], _ :: _ => .inr (.inl rfl)
  | _ :: _, [] => .inr (.inr rfl)
  | a :: l, b :: m => by
    unfold lx
    simp only [Bool.or_eq_true, Bool.and_eq_true, decide_eq_true_eq, beq_iff_eq]
    rcases Nat.lt_trichotomy a b with h | h | h
    · exact .inr (.inl (.inl h))
    · subst h
      rcases lx_tri l m with h | h | h
      · exact .inl (by rw [h])
      · exact .inr (.inl (.inr ⟨rfl, h⟩))
      · exact .inr (.inr (.inr ⟨rfl, h⟩))
    · exact .inr (.inr (.inl h))
theorem ahead_iff (l m : List Nat) : ahead l m = true ↔ m.length < l.length ∨ (l.length = m.length ∧ lx l m = true) := by
  unfold ahead
  simp only [Bool.or_eq_true, Bool.and_eq_true, decide_eq_true_eq, beq_iff_eq]
theorem ahead_trans {a b c : List Nat} (h1 : ahead a b = true) (h2 : ahead b c = true) : ahead a c = true := by
  rw [ahead_iff] at *
  rcases h1 with h1 | ⟨h1, h1'⟩ <;> rcases h2 with h2 | ⟨h2, h2'⟩
  · exact .inl (by omega)
  · exact .inl (by omega)
  · exact .inl (by omega)
  · exact .inr ⟨by omega, lx_trans h1' h2'⟩
theorem ahead_tri (a b : List Nat) : a = b ∨ ahead a b = true ∨ ahead b a = true := by
  rw [ahead_iff, ahead_iff]
  rcases Nat.lt_trichotomy a.length b.length with h | h | h
  · exact .inr (.inr (.inl h))
  · rcases lx_tri a b with z | z | z
    · exact .inl z
    · exact .inr (.inl (.inr ⟨h, z⟩))
    · exact .inr (.inr (.inr ⟨h.symm, z⟩))
  · exact .inr (.inl (.inl h))
theorem ahead_irr (a : List Nat) : ahead a a = false := by
  unfold ahead; simp [lx_irr]
theorem ahead_cons (p : Nat) (a b : List Nat) : ahead (p :: a) (p :: b) = ahead a b := by
  unfold ahead
  simp [lx]
def Best (P : List Nat → Prop) (l : List Nat) : Prop := P l ∧ ∀ m, P m → ahead m l = false
theorem Best.unique {P : List Nat → Prop} {l m : List Nat} (a : Best P l) (b : Best P m) : l = m := by
  rcases ahead_tri l m with h | h | h
  · exact h
  · have := b.2 l a.1; rw [h] at this; cases this
  · have := a.2 m b.1; rw [h] at this; cases this
theorem Best.iff {P Q : List Nat → Prop} {l : List Nat} (a : Best P l) (h : ∀ m, P m ↔ Q m) : Best Q l := ⟨(h l).mp a.1, fun m hm => a.2 m ((h m).mpr hm)⟩
theorem Best.len {P : List Nat → Prop} {l : List Nat} (a : Best P l) (m : List Nat) (h : P m) : m.length ≤ l.length := by
  have := a.2 m h
  rcases Nat.lt_or_ge l.length m.length with z | z
  · rw [(ahead_iff m l).mpr (.inl z)] at this; cases this
  · exact z
def far (s : Int) (d : Bool) (a b : Int) : Prop := if d then s ≤ b - a else s ≤ a - b
instance (s : Int) (d : Bool) (a b : Int) : Decidable (far s d a b) := by unfold far; exact inferInstance
def Wd (x : Nat → Int) (n : Nat) (s : Int) : Bool → List Nat → Prop
  | _, [] => False
  | _, [p] => p < n
  | d, p :: q :: l => p < q ∧ far s d (x p) (x q) ∧ Wd x n s (!d) (q :: l)
def Wv (x : Nat → Int) (n : Nat) (s : Int) (l : List Nat) : Prop := l = [] ∨ ∃ d, Wd x n s d l
def From (x : Nat → Int) (n : Nat) (s : Int) (d : Bool) (p t : Nat) (l : List Nat) : Prop := Wd x n s d l ∧ (l = [p] ∨ ∃ q m, l = p :: q :: m ∧ q ≤ t)
variable {x : Nat → Int} {n : Nat} {s : Int}
theorem Wd.lt : ∀ {l : List Nat} {d : Bool} {p : Nat}, Wd x n s d (p :: l) → p < n
  | [], d, p, h => h
  | q :: l, d, p, h => Nat.lt_trans h.1 h.2.2.lt
theorem Wd.len : ∀ {l : List Nat} {d : Bool} {p : Nat}, Wd x n s d (p :: l) → l.length + p < n
  | [], d, p, h => by have h : p < n := h; simpa using h
  | q :: l, d, p, h => by
    have := h.2.2.len
    have := h.1
    simp; omega
theorem from_one {d : Bool} {p : Nat} (hp : p < n) : Best (From x n s d p p) [p] := by
  refine ⟨⟨hp, .inl rfl⟩, ?_⟩
  rintro m ⟨h1, h2⟩
  rcases h2 with rfl | ⟨q, m, rfl, hq⟩
  · exact ahead_irr _
  · have := h1.1; omega
theorem from_step {d : Bool} {p q : Nat} {U T : List Nat} (hq : p < q) (hU : Best (From x n s d p (q - 1)) U) (hT : Best (From x n s (!d) q n) T) (decf : Decidable (far s d (x p) (x q))) :
    Best (From x n s d p q) (if far s d (x p) (x q) ∧ U.length ≤ T.length then p :: T else U) := by
  have hTq : ∃ m, T = q :: m := by
    rcases hT.1.2 with h | ⟨r, m, h, _⟩
    · exact ⟨_, h⟩
    · exact ⟨_, h⟩
  have low : ∀ m, From x n s d p (q - 1) m → From x n s d p q m := fun m h => ⟨h.1, h.2.imp id fun ⟨r, m, e, hr⟩ => ⟨r, m, e, by omega⟩⟩
  have split : ∀ m, From x n s d p q m → From x n s d p (q - 1) m ∨ ∃ k, m = p :: k ∧ far s d (x p) (x q) ∧ From x n s (!d) q n k := by
    rintro m ⟨h1, h2⟩
    rcases h2 with rfl | ⟨r, m, rfl, hr⟩
    · exact .inl ⟨h1, .inl rfl⟩
    · rcases Nat.lt_or_ge r q with z | z
      · exact .inl ⟨h1, .inr ⟨r, m, rfl, by omega⟩⟩
      · have : r = q := by omega
        subst this
        refine .inr ⟨_, rfl, h1.2.1, h1.2.2, ?_⟩
        cases m with
        | nil => exact .inl rfl
        | cons t m => exact .inr ⟨t, m, rfl, Nat.le_of_lt h1.2.2.2.2.lt⟩
  obtain ⟨T', eT⟩ := hTq
  split
  · rename_i h
    refine ⟨⟨?_, ?_⟩, fun m hm => ?_⟩
    · rw [eT]; exact ⟨hq, h.1, by rw [← eT]; exact hT.1.1⟩
    · exact .inr ⟨q, T', by rw [eT], Nat.le_refl _⟩
    · rcases split m hm with z | ⟨k, rfl, _, z⟩
      · have := hU.len m z
        cases e : ahead m (p :: T) with
        | false => rfl
        | true =>
          rw [ahead_iff] at e
          simp only [List.length_cons] at e
          omega
      · rw [ahead_cons]; exact hT.2 k z
  · rename_i h
    refine ⟨low _ hU.1, fun m hm => ?_⟩
    rcases split m hm with z | ⟨k, rfl, hf, z⟩
    · exact hU.2 m z
    · have hl : ¬ U.length ≤ T.length := fun w => h ⟨hf, w⟩
      have := hT.len k z
      cases e : ahead (p :: k) U with
      | false => rfl
      | true =>
        rw [ahead_iff] at e
        simp only [List.length_cons] at e
        rcases e with e | ⟨e1, e2⟩
        · omega
        · rcases hU.1.2 with w | ⟨r, m, w, hr⟩
          · have : k.length = 0 := by rw [w] at e1; simpa using e1
            rcases z.2 with y | ⟨_, _, y, _⟩ <;> (rw [y] at this; simp at this)
          · have hk : ∃ k', k = q :: k' := by
              rcases z.2 with y | ⟨_, _, y, _⟩
              · exact ⟨_, y⟩
              · exact ⟨_, y⟩
            obtain ⟨k', rfl⟩ := hk
            rw [w] at e2
            unfold lx at e2
            simp only [Nat.lt_irrefl, decide_false, beq_self_eq_true, Bool.true_and, Bool.false_or] at e2
            unfold lx at e2
            simp only [Bool.or_eq_true, Bool.and_eq_true, decide_eq_true_eq, beq_iff_eq] at e2
            omega
theorem from_all {d : Bool} {p t : Nat} {l : List Nat} (h : Best (From x n s d p t) l) (ht : n ≤ t + 1) : Best (From x n s d p n) l :=
  h.iff fun m => ⟨fun a => ⟨a.1, a.2.imp id fun ⟨q, k, e, hq⟩ => ⟨q, k, e, by rw [e] at a; exact Nat.le_of_lt a.1.2.2.lt⟩⟩, fun a => ⟨a.1, a.2.imp id fun ⟨q, k, e, hq⟩ => ⟨q, k, e, by rw [e] at a; have := a.1.2.2.lt; omega⟩⟩⟩
theorem from_skip {d : Bool} {p t t' : Nat} {l : List Nat} (h : Best (From x n s d p t) l) (ht : t = t') : Best (From x n s d p t') l := ht ▸ h
theorem wd_from {d : Bool} {p : Nat} {l : List Nat} (h : Wd x n s d (p :: l)) : From x n s d p n (p :: l) := ⟨h, by
  cases l with
  | nil => exact .inl rfl
  | cons q l => exact .inr ⟨q, l, rfl, Nat.le_of_lt h.2.2.lt⟩⟩
theorem best_all {l : List Nat} {ls : List (List Nat)} (hm : l ∈ ls) (hmin : ∀ m ∈ ls, ahead m l = false) (hw : ∀ m ∈ ls, Wv x n s m) (hall : ∀ d p, p < n → ∃ m ∈ ls, Best (From x n s d p n) m) (hn : l ≠ []) : Best (Wv x n s) l := by
  refine ⟨hw l hm, fun m h => ?_⟩
  rcases h with rfl | ⟨d, h⟩
  · cases e : ahead [] l with
    | false => rfl
    | true =>
      rw [ahead_iff] at e
      simp only [List.length_nil] at e
      rcases e with e | ⟨e, _⟩
      · omega
      · exact absurd (List.length_eq_zero_iff.mp e.symm) hn
  · cases m with
    | nil => exact h.elim
    | cons p m =>
      obtain ⟨k, hk, hb⟩ := hall d p h.lt
      have h1 := hb.2 _ (wd_from h)
      have h2 := hmin k hk
      cases e : ahead (p :: m) l with
      | false => rfl
      | true =>
        rcases ahead_tri k (p :: m) with z | z | z
        · rw [← z, h2] at e; cases e
        · rw [ahead_trans z e] at h2; cases h2
        · rw [z] at h1; cases h1
theorem best_none (hn : n = 0) : Best (Wv x n s) [] := by
  refine ⟨.inl rfl, fun m h => ?_⟩
  rcases h with rfl | ⟨d, h⟩
  · rfl
  · cases m with
    | nil => exact h.elim
    | cons p m => have := h.lt; omega
end Lw

set_option Elab.async false
set_option linter.all false
set_option maxRecDepth 100000
set_option maxHeartbeats 4000000
namespace Lw
open PySem L2
local macro_rules | `(tactic| simp_arith [$ls,*]) => `(tactic| simp (config := {decide := true, implicitDefEqProofs := false}) only [runB, startS, List.map_cons, List.map_nil, List.length_cons, List.length_nil, List.replicate, List.cons_append, List.nil_append, mvar, bvar, mc, mlst, aslst, m2, mtest, subD, mulD, fdivD, modD, powD, shlD, shrD, andD, ltD, leD, gtD, geD, eqSD, neSD, eqS_ii, eqS_bb, eqS_ss, eqS_nn, eqS_nb, eqS_bn, eqS_ni, eqS_in, m1, negD, notD, mand, mor, mtru, truD, cand, cor, cnot, mite, anil, acons, sized, mtup, mlen, mix, onone, osome, mcut, mcat, addD, call1, lenF, absF, max2F, min2F, two2, intF, mnext, mseq, mif, mnever, mbreak, mcont, mset, msetF, maug, mexpr, mret, mretF, mretO, mretN, mapp, msetix, mfreeze, masg, mmeth, mmeth0, strM, mcutS, strF, intTF, joinF, startsF, remPF, splitF, addSD, mlist, zip2, zip3, enum1, cyes, mcall, mcallF, meqB, misi, mrev, msetix2, tyD, int2, bl2, tgD, setAll, Option.bind_some, Option.map_some, Option.bind_none, Option.map_none, List.getElem?_cons_zero, List.getElem?_cons_succ, List.set_cons_zero, List.set_cons_succ, List.isEmpty_cons, List.isEmpty_nil, Bool.not_true, Bool.not_false, $ls,*])
def dN (p : Nat) : D := .int (p : Int)
def L (l : List Nat) : D := .lst (l.map dN)
def Ky (l : List Nat) : D := .tup [.int (-(l.length : Int)), L l]
theorem eqF_nn (k : Nat) (a b : Nat) : eqF (k + 1) (dN a) (dN b) = some (a == b) := by
  show some ((a : Int) == (b : Int)) = _
  congr 1
  rw [Bool.eq_iff_iff, beq_iff_eq, beq_iff_eq]
  omega
theorem zipE_nn (k : Nat) : ∀ (l m : List Nat), l.length = m.length → zipE (eqF (k + 1)) (l.map dN) (m.map dN) = some (l == m)
  | [], [], _ => rfl
  | [], _ :: _, h => by cases h
  | _ :: _, [], h => by cases h
  | a :: l, b :: m, h => by
    rw [List.map_cons, List.map_cons, zipE, eqF_nn, zipE_nn k l m (by simpa using h)]
    rfl
theorem lexF_nn (k : Nat) : ∀ (l m : List Nat), lexF (eqF (k + 1)) (ltF (k + 1)) (l.map dN) (m.map dN) = some (lx l m)
  | [], [] => rfl
  | [], _ :: _ => rfl
  | _ :: _, [] => rfl
  | a :: l, b :: m => by
    rw [List.map_cons, List.map_cons, lexF, eqF_nn]
    unfold lx
    by_cases h : a = b
    · subst h
      simp only [beq_self_eq_true, Nat.lt_irrefl, decide_false, Bool.true_and, Bool.false_or]
      exact lexF_nn k l m
    · have e : (a == b) = false := by simpa using h
      rw [e]
      simp only [Bool.false_and, Bool.or_false]
      show some (decide ((a : Int) < (b : Int))) = _
      congr 1
      apply decide_eq_decide.mpr
      omega
theorem lt_key (l m : List Nat) : ltF 8 (Ky l) (Ky m) = some (ahead l m) := by
  show lexF (eqF 7) (ltF 7) [.int (-(l.length : Int)), L l] [.int (-(m.length : Int)), L m] = _
  rw [lexF, show eqF 7 (.int (-(l.length : Int))) (.int (-(m.length : Int))) = some (-(l.length : Int) == -(m.length : Int)) from rfl]
  unfold ahead
  by_cases h : l.length = m.length
  · rw [h]
    simp only [beq_self_eq_true, Nat.lt_irrefl, decide_false, Bool.true_and, Bool.false_or]
    have e : eqF 7 (L l) (L m) = some (l == m) := by
      show (if (l.map dN).length = (m.map dN).length then zipE (eqF 6) (l.map dN) (m.map dN) else some false) = _
      rw [if_pos (by simpa using h), zipE_nn 5 l m h]
    rw [lexF, e]
    by_cases hq : l = m
    · subst hq
      simp only [beq_self_eq_true]
      rw [lx_irr]; rfl
    · have e2 : (l == m) = false := by simpa using hq
      rw [e2]
      exact lexF_nn 5 l m
  · have e : (-(l.length : Int) == -(m.length : Int)) = false := by
      rw [beq_eq_false_iff_ne]; omega
    have e2 : (l.length == m.length) = false := by simpa using h
    rw [e, e2]
    simp only [Bool.false_and, Bool.or_false]
    show some (decide (-(l.length : Int) < -(m.length : Int))) = _
    congr 1
    apply decide_eq_decide.mpr
    omega
theorem min_list {mk : D → Option D} (hk : ∀ l, mk (L l) = some (Ky l)) : ∀ (ls : List (List Nat)) (b : List Nat), ∃ r, minF mk (ls.map L) (L b) (Ky b) = some (L r) ∧ r ∈ b :: ls ∧ ∀ m ∈ b :: ls, ahead m r = false
  | [], b => ⟨b, rfl, by simp, by simp [ahead_irr]⟩
  | m :: ls, b => by
    rw [List.map_cons]
    unfold minF
    rw [hk m]
    simp only [lt_key m b]
    cases h : ahead m b with
    | true =>
      obtain ⟨r, e, h1, h2⟩ := min_list hk ls m
      refine ⟨r, e, List.mem_cons_of_mem _ h1, fun k hk' => ?_⟩
      rcases List.mem_cons.mp hk' with rfl | hk'
      · cases z : ahead k r with
        | false => rfl
        | true => have := h2 m (by simp); rw [ahead_trans h z] at this; cases this
      · exact h2 k hk'
    | false =>
      obtain ⟨r, e, h1, h2⟩ := min_list hk ls b
      refine ⟨r, e, ?_, fun k hk' => ?_⟩
      · rcases List.mem_cons.mp h1 with h1 | h1
        · simp [h1]
        · simp [h1]
      · have hb := h2 b (by simp)
        rcases List.mem_cons.mp hk' with rfl | hk'
        · exact hb
        · rcases List.mem_cons.mp hk' with rfl | hk'
          · cases z : ahead k r with
            | false => rfl
            | true =>
              rcases ahead_tri k b with w | w | w
              · rw [w, hb] at z; cases z
              · rw [h] at w; cases w
              · rw [ahead_trans w z] at hb; cases hb
          · exact h2 k (List.mem_cons_of_mem _ hk')
abbrev xr (row : List Int) : Nat → Int := fun i => row.getD i 0
def envU (row : List Int) (s : Int) (U V : List (List Nat)) (o4 o5 o6 : Option S) : Ro := [some (.sh (.lst (row.map .int))), some (.sh (.int s)), some (.own (U.map L)), some (.own (V.map L)), o4, o5, o6]
theorem tge_ev {x y : ME} {ρ : Ro} {i j : Int} (h1 : x ρ = some (.int i)) (h2 : y ρ = some (.int j)) : mtest (m2 geD x y) ρ = some (decide (j ≤ i)) := by
  unfold mtest m2; rw [h1, h2]; rfl
theorem mlen_ev {m : ML} {ρ : Ro} {ds : List D} (h : m ρ = some ds) : mlen m ρ = some (.int ds.length) := by unfold mlen; rw [h]; rfl
theorem at_L (U : List (List Nat)) (p : Nat) (h : p < U.length) : atI (U.map L) (p : Int) = some (L (U.getD p [])) := by
  have := atI_map L U (p : Int) (by omega) (by omega) []
  rw [Int.toNat_natCast] at this
  exact this
theorem ixN_nat (n p : Nat) (h : p < n) : ixN n (p : Int) = some p := by
  unfold ixN
  rw [if_pos (by omega), if_pos (by omega), Int.toNat_natCast]
def upU (s : Int) (row : List Int) (d : Bool) (U V : List (List Nat)) (p q : Nat) : List (List Nat) :=
  if (if d then s ≤ xr row q - xr row p else s ≤ xr row p - xr row q) ∧ (U.getD p []).length ≤ (V.getD q []).length then U.set p (p :: V.getD q []) else U
theorem upU_len (s : Int) (row : List Int) (d : Bool) (U V : List (List Nat)) (p q : Nat) : (upU s row d U V p q).length = U.length := by
  unfold upU
  by_cases hc : ((if d then s ≤ xr row q - xr row p else s ≤ xr row p - xr row q) ∧ (U.getD p []).length ≤ (V.getD q []).length)
  · rw [if_pos hc, List.length_set]
  · rw [if_neg hc]
theorem upU_ne (s : Int) (row : List Int) (d : Bool) (U V : List (List Nat)) (p q r : Nat) (h : p ≠ r) : (upU s row d U V p q).getD r [] = U.getD r [] := by
  rw [List.getD_eq_getElem?_getD, List.getD_eq_getElem?_getD]
  unfold upU
  by_cases hc : ((if d then s ≤ xr row q - xr row p else s ≤ xr row p - xr row q) ∧ (U.getD p []).length ≤ (V.getD q []).length)
  · rw [if_pos hc, List.getElem?_set_ne h]
  · rw [if_neg hc]
theorem getD_set_eq (U : List (List Nat)) (p : Nat) (l : List Nat) (h : p < U.length) : (U.set p l).getD p [] = l := by
  rw [List.getD_eq_getElem?_getD, List.getElem?_set_self h]; rfl
theorem tails_body (row : List Int) (s : Int) (U V : List (List Nat)) (p q : Nat) (o6 : Option S) (hU : U.length = row.length) (hV : V.length = row.length) (hp : p < row.length) (hq : q < row.length) (bU : (U.getD q []).length ≤ 1000) (bV : (V.getD q []).length ≤ 1000) (hpq : p ≠ q) :
    ∃ o6', b_tails_f0 (envU row s U V (some (.sh (.int (p : Int)))) (some (.sh (.int (q : Int)))) o6) = some (.nx (envU row s (upU s row true U V p q) (upU s row false V U p q) (some (.sh (.int (p : Int)))) (some (.sh (.int (q : Int)))) o6')) := by
  have big := size_big
  have ap := at_nat row p hp
  have aq := at_nat row q hq
  have i1 : 0 + 1 ≤ sizeLine := le_size (by decide)
  refine ⟨some (.sh (.int (xr row q - xr row p))), ?_⟩
  unfold b_tails_f0
  refine seqI (ρ' := envU row s U V (some (.sh (.int (p : Int)))) (some (.sh (.int (q : Int)))) (some (.sh (.int (xr row q - xr row p))))) ?_ ?_
  · unfold envU
    simp_arith [ap, aq]
  have go : ∀ (iU iV : Nat) (A B : List (List Nat)) (ρ : Ro), ρ[iU]? = some (some (.own (A.map L))) → ρ[iV]? = some (some (.own (B.map L))) → ρ[4]? = some (some (.sh (.int (p : Int)))) → ρ[5]? = some (some (.sh (.int (q : Int)))) → A.length = row.length → B.length = row.length → (B.getD q []).length ≤ 1000 →
      (mtest (m2 geD (mlen (aslst (mix (bvar iV) (mvar 5)))) (mlen (aslst (mix (bvar iU) (mvar 4))))) ρ = some (decide ((A.getD p []).length ≤ (B.getD q []).length))) ∧
      msetix iU (mvar 4) (mlst (mcat (sized (acons (mvar 4) anil)) (aslst (mix (bvar iV) (mvar 5))))) ρ = some (.nx (ρ.set iU (some (.own ((A.set p (p :: B.getD q [])).map L))))) := by
    intro iU iV A B ρ hA hB h4 h5 lA lB bB
    have eA : bvar iU ρ = some (A.map L) := by unfold bvar; rw [hA]
    have eB : bvar iV ρ = some (B.map L) := by unfold bvar; rw [hB]
    have e4 : mvar 4 ρ = some (.int (p : Int)) := by unfold mvar; rw [h4]
    have e5 : mvar 5 ρ = some (.int (q : Int)) := by unfold mvar; rw [h5]
    have fB : aslst (mix (bvar iV) (mvar 5)) ρ = some ((B.getD q []).map dN) := aslst_ev (mix_ev eB e5 (at_L B q (by omega)))
    have fA : aslst (mix (bvar iU) (mvar 4)) ρ = some ((A.getD p []).map dN) := aslst_ev (mix_ev eA e4 (at_L A p (by omega)))
    constructor
    · rw [tge_ev (mlen_ev fB) (mlen_ev fA)]
      congr 1
      apply decide_eq_decide.mpr
      rw [List.length_map, List.length_map]
      omega
    · have ev : mlst (mcat (sized (acons (mvar 4) anil)) (aslst (mix (bvar iV) (mvar 5)))) ρ = some (L (p :: B.getD q [])) := by
        rw [mlst_ev (mcat_ev (sized_ev (acons_ev e4 anil_ev) i1) fB (by rw [List.length_map, List.length_singleton]; omega))]
        rfl
      unfold msetix
      rw [ev, hA, e4]
      show ((ixN (A.map L).length (p : Int)).map fun j => Out.nx (ρ.set iU (some (.own ((A.map L).set j (L (p :: B.getD q []))))))) = _
      rw [List.length_map, ixN_nat _ _ (by omega)]
      show some (Out.nx _) = _
      rw [List.map_set]
  have t1 : ∀ A B o6, mtest (m2 geD (mvar 6) (mvar 1)) (envU row s A B o6 (some (.sh (.int (q : Int)))) (some (.sh (.int (xr row q - xr row p))))) = some (decide (s ≤ xr row q - xr row p)) := fun A B o6 => tge_ev rfl rfl
  have t2 : ∀ A B o6, mtest (m2 geD (m1 negD (mvar 6)) (mvar 1)) (envU row s A B o6 (some (.sh (.int (q : Int)))) (some (.sh (.int (xr row q - xr row p))))) = some (decide (s ≤ -(xr row q - xr row p))) := fun A B o6 => tge_ev rfl rfl
  obtain ⟨c1, c2⟩ := go 2 3 U V (envU row s U V (some (.sh (.int (p : Int)))) (some (.sh (.int (q : Int)))) (some (.sh (.int (xr row q - xr row p))))) rfl rfl rfl rfl hU hV bV
  refine seqI (ρ' := envU row s (upU s row true U V p q) V (some (.sh (.int (p : Int)))) (some (.sh (.int (q : Int)))) (some (.sh (.int (xr row q - xr row p))))) ?_ ?_
  · unfold mif
    rw [cand_ev (t1 _ _ _) c1]
    unfold upU
    by_cases h : s ≤ xr row q - xr row p ∧ (U.getD p []).length ≤ (V.getD q []).length
    · rw [if_pos (by simpa using h), decide_eq_true h.1, decide_eq_true h.2]
      exact c2
    · rw [if_neg (by simpa using h)]
      have : (decide (s ≤ xr row q - xr row p) && decide ((U.getD p []).length ≤ (V.getD q []).length)) = false := by
        rw [Bool.eq_false_iff]
        intro z
        rw [Bool.and_eq_true, decide_eq_true_eq, decide_eq_true_eq] at z
        exact h z
      rw [this]
      rfl
  · have hU' : (upU s row true U V p q).length = row.length := by rw [upU_len]; exact hU
    have gU : (upU s row true U V p q).getD q [] = U.getD q [] := upU_ne _ _ _ _ _ _ _ _ hpq
    obtain ⟨d1, d2⟩ := go 3 2 V (upU s row true U V p q) (envU row s (upU s row true U V p q) V (some (.sh (.int (p : Int)))) (some (.sh (.int (q : Int)))) (some (.sh (.int (xr row q - xr row p))))) rfl rfl rfl rfl hV hU' (by rw [gU]; exact bU)
    rw [gU] at d1 d2
    unfold mif
    rw [cand_ev (t2 _ _ _) d1]
    have ex : upU s row false V U p q = if s ≤ xr row p - xr row q ∧ (V.getD p []).length ≤ (U.getD q []).length then V.set p (p :: U.getD q []) else V := by
      unfold upU; simp
    rw [ex]
    by_cases h : s ≤ xr row p - xr row q ∧ (V.getD p []).length ≤ (U.getD q []).length
    · rw [if_pos h, decide_eq_true (show s ≤ -(xr row q - xr row p) by omega), decide_eq_true h.2]
      exact d2
    · rw [if_neg h]
      have : (decide (s ≤ -(xr row q - xr row p)) && decide ((V.getD p []).length ≤ (U.getD q []).length)) = false := by
        rw [Bool.eq_false_iff]
        intro z
        rw [Bool.and_eq_true, decide_eq_true_eq, decide_eq_true_eq] at z
        exact h ⟨by omega, z.2⟩
      rw [this]
      rfl
end Lw

set_option Elab.async false
set_option linter.all false
set_option maxRecDepth 100000
set_option maxHeartbeats 4000000
namespace Lw
open PySem L2
local macro_rules | `(tactic| simp_arith [$ls,*]) => `(tactic| simp (config := {decide := true, implicitDefEqProofs := false}) only [runB, startS, List.map_cons, List.map_nil, List.length_cons, List.length_nil, List.replicate, List.cons_append, List.nil_append, mvar, bvar, mc, mlst, aslst, m2, mtest, subD, mulD, fdivD, modD, powD, shlD, shrD, andD, ltD, leD, gtD, geD, eqSD, neSD, eqS_ii, eqS_bb, eqS_ss, eqS_nn, eqS_nb, eqS_bn, eqS_ni, eqS_in, m1, negD, notD, mand, mor, mtru, truD, cand, cor, cnot, mite, anil, acons, sized, mtup, mlen, mix, onone, osome, mcut, mcat, addD, call1, lenF, absF, max2F, min2F, two2, intF, mnext, mseq, mif, mnever, mbreak, mcont, mset, msetF, maug, mexpr, mret, mretF, mretO, mretN, mapp, msetix, mfreeze, masg, mmeth, mmeth0, strM, mcutS, strF, intTF, joinF, startsF, remPF, splitF, addSD, mlist, zip2, zip3, enum1, cyes, mcall, mcallF, meqB, misi, mrev, msetix2, tyD, int2, bl2, tgD, setAll, Option.bind_some, Option.map_some, Option.bind_none, Option.map_none, List.getElem?_cons_zero, List.getElem?_cons_succ, List.set_cons_zero, List.set_cons_succ, List.isEmpty_cons, List.isEmpty_nil, Bool.not_true, Bool.not_false, $ls,*])
abbrev BT (row : List Int) (s : Int) (d : Bool) (p t : Nat) : List Nat → Prop := Best (From (xr row) row.length s d p t)
theorem BT.len {row : List Int} {s : Int} {d : Bool} {p t : Nat} {l : List Nat} (h : BT row s d p t l) : l.length ≤ row.length := by
  rcases h.1.2 with e | ⟨q, m, e, _⟩
  · rw [e] at h ⊢
    have := h.1.1.lt
    simp; omega
  · rw [e] at h ⊢
    have := h.1.1.len
    simp at this ⊢; omega
def Done (row : List Int) (s : Int) (p : Nat) (U V : List (List Nat)) : Prop := ∀ q, p ≤ q → q < row.length → BT row s true q row.length (U.getD q []) ∧ BT row s false q row.length (V.getD q [])
def Yet (p : Nat) (U V : List (List Nat)) : Prop := ∀ q, q < p → U.getD q [] = [q] ∧ V.getD q [] = [q]
theorem upU_at (s : Int) (row : List Int) (d : Bool) (U V : List (List Nat)) (p q : Nat) (hp : p < U.length) : (upU s row d U V p q).getD p [] = if far s d (xr row p) (xr row q) ∧ (U.getD p []).length ≤ (V.getD q []).length then p :: V.getD q [] else U.getD p [] := by
  unfold upU far
  by_cases hc : ((if d then s ≤ xr row q - xr row p else s ≤ xr row p - xr row q) ∧ (U.getD p []).length ≤ (V.getD q []).length)
  · rw [if_pos hc, if_pos hc, getD_set_eq _ _ _ hp]
  · rw [if_neg hc, if_neg hc]
theorem inner_step (row : List Int) (s : Int) (U V : List (List Nat)) (p k : Nat) (hU : U.length = row.length) (hV : V.length = row.length) (hk : p + 1 + k < row.length) (hd : Done row s (p + 1) U V)
    (h1 : BT row s true p (p + k) (U.getD p [])) (h2 : BT row s false p (p + k) (V.getD p [])) :
    BT row s true p (p + (k + 1)) ((upU s row true U V p (p + 1 + k)).getD p []) ∧ BT row s false p (p + (k + 1)) ((upU s row false V U p (p + 1 + k)).getD p []) := by
  obtain ⟨a, b⟩ := hd (p + 1 + k) (by omega) hk
  rw [upU_at _ _ _ _ _ _ _ (by omega), upU_at _ _ _ _ _ _ _ (by omega)]
  have e : p + (k + 1) = p + 1 + k := by omega
  rw [e]
  constructor
  · exact from_step (q := p + 1 + k) (by omega) (from_skip h1 (by omega)) b _
  · exact from_step (q := p + 1 + k) (by omega) (from_skip h2 (by omega)) a _
theorem inner_loop (row : List Int) (s : Int) (hr : row.length ≤ 300) (U V : List (List Nat)) (p : Nat) (hp : p < row.length) (hU : U.length = row.length) (hV : V.length = row.length) (hd : Done row s (p + 1) U V) (hy : Yet (p + 1) U V) (o5 o6 : Option S) (Q : Out → Prop)
    (hQ : ∀ U V o5 o6, U.length = row.length → V.length = row.length → Done row s p U V → Yet p U V → Q (.nx (envU row s U V (some (.sh (.int (p : Int)))) o5 o6))) :
    Run b_tails_f1 (envU row s U V (some (.sh (.int (p : Int)))) o5 o6) Q := by
  unfold b_tails_f1
  have k1 : okR ((p : Int) + 1) = true := okR_of (by omega) (by omega)
  have k2 : okR (row.length : Int) = true := okR_of (by omega) (by omega)
  have er : rangeD ((p : Int) + 1) ((row.length : Int) - ((p : Int) + 1)).toNat = (List.range (row.length - (p + 1))).map fun (j : Nat) => D.int ((p + 1 + j : Nat) : Int) := by
    rw [rangeD_map, show ((row.length : Int) - ((p : Int) + 1)).toNat = row.length - (p + 1) by omega]
    apply List.map_congr_left
    intro i _
    congr 1
  refine run_forN (row.length - (p + 1)) (f := fun (j : Nat) => D.int ((p + 1 + j : Nat) : Int)) (by unfold envU; simp_arith [List.length_map, rng2_ok k1 k2, er])
    (I := fun k ρ => ∃ U V o5 o6, U.length = row.length ∧ V.length = row.length ∧ Done row s (p + 1) U V ∧ Yet p U V ∧ BT row s true p (p + k) (U.getD p []) ∧ BT row s false p (p + k) (V.getD p []) ∧ ρ = envU row s U V (some (.sh (.int (p : Int)))) o5 o6) _
    ⟨U, V, o5, o6, hU, hV, hd, fun q hq => hy q (by omega), by rw [(hy p (by omega)).1]; exact from_one hp, by rw [(hy p (by omega)).2]; exact from_one hp, rfl⟩ ?_ ?_
  · rintro k ρ hk ⟨U, V, o5, o6, hU, hV, hd, hy, h1, h2, rfl⟩
    refine ⟨_, rfl, ?_⟩
    obtain ⟨a, b⟩ := hd (p + 1 + k) (by omega) (by omega)
    have la := a.len
    have lb := b.len
    obtain ⟨o6', e⟩ := tails_body row s U V p (p + 1 + k) o6 hU hV hp (by omega) (by omega) (by omega) (by omega)
    obtain ⟨n1, n2⟩ := inner_step row s U V p k hU hV (by omega) hd h1 h2
    refine ⟨_, e, upU s row true U V p (p + 1 + k), upU s row false V U p (p + 1 + k), _, _, by rw [upU_len]; exact hU, by rw [upU_len]; exact hV, ?_, ?_, n1, n2, rfl⟩
    · intro q h1 h2
      rw [upU_ne _ _ _ _ _ _ _ _ (by omega), upU_ne _ _ _ _ _ _ _ _ (by omega)]
      exact hd q h1 h2
    · intro q h1
      rw [upU_ne _ _ _ _ _ _ _ _ (by omega), upU_ne _ _ _ _ _ _ _ _ (by omega)]
      exact hy q h1
  · rintro ρ ⟨U, V, o5, o6, hU, hV, hd, hy, h1, h2, rfl⟩
    refine hQ U V o5 o6 hU hV (fun q h3 h4 => ?_) hy
    rcases Nat.lt_or_ge p q with z | z
    · exact hd q (by omega) h4
    · have : q = p := by omega
      subst this
      exact ⟨from_all h1 (by omega), from_all h2 (by omega)⟩
theorem rngD_ok {j : Int} (h : okR j = true) : rngD [.int j] = some (downD j.toNat) := by
  unfold rngD
  simp only [h, if_true]
theorem ones_ev (row : List Int) (hr : row.length ≤ 300) (ρ : Ro) (h0 : bvar 0 ρ = some (row.map .int)) : mcomp [none] (mlist rng1 (acons (mlen (bvar 0)) anil)) (.nm 0) cyes (mlst (sized (acons (mvar 0) anil))) ρ = some (((List.range row.length).map fun j => [j]).map L) := by
  have k2 : okR (row.length : Int) = true := okR_of (by omega) (by omega)
  have i1 : 0 + 1 ≤ sizeLine := le_size (by decide)
  have e1 : mlist rng1 (acons (mlen (bvar 0)) anil) ρ = some ((List.range row.length).map dN) := by
    unfold mlist
    rw [acons_ev (mlen_ev h0) anil_ev, Option.bind_some, List.length_map, rng1_ok k2, Int.toNat_natCast, rangeD_li, List.map_map]
    rfl
  unfold mcomp
  rw [e1]
  refine (compD_map (f := dN) (G := fun j => L [j]) (fun _ ρ => ∃ x, ρ = [x]) (by
    rintro d ds ρ ⟨x, rfl⟩
    exact ⟨[some (.sh (dN d))], rfl, rfl, by rw [mlst_ev (sized_ev (acons_ev (x := mvar 0) (d := dN d) rfl anil_ev) i1)]; rfl, _, rfl⟩) (List.range row.length) _ [] ⟨none, rfl⟩ (le_size (by simp; omega))).trans ?_
  rw [List.map_map]
  rfl
theorem tails_eq (row : List Int) (s : Int) (hr : row.length ≤ 300) : ∃ U V : List (List Nat), m_tails [.lst (row.map .int), .int s] = some (.sh (.tup [.lst (U.map L), .lst (V.map L)])) ∧ U.length = row.length ∧ V.length = row.length ∧ Done row s 0 U V := by
  suffices h : ∃ d, runB 7 b_tails [.lst (row.map .int), .int s] = some (.sh d) ∧ ∃ U V : List (List Nat), d = .tup [.lst (U.map L), .lst (V.map L)] ∧ U.length = row.length ∧ V.length = row.length ∧ Done row s 0 U V by
    obtain ⟨d, e, U, V, rfl, a, b, c⟩ := h
    exact ⟨U, V, e, a, b, c⟩
  suffices h : Run b_tails (startS 7 [.lst (row.map .int), .int s]) (fun o => ∃ U V : List (List Nat), o = .rt (.tup [.lst (U.map L), .lst (V.map L)]) ∧ U.length = row.length ∧ V.length = row.length ∧ Done row s 0 U V) by
    obtain ⟨o, e, U, V, rfl, r⟩ := h
    exact ⟨_, runB_rt e, U, V, rfl, r⟩
  unfold b_tails
  have k2 : okR (row.length : Int) = true := okR_of (by omega) (by omega)
  have i2 : 0 + 1 + 1 ≤ sizeLine := le_size (by decide)
  refine run_seq (ρ' := [some (.sh (.lst (row.map .int))), some (.sh (.int s)), some (.own (((List.range row.length).map fun j => [j]).map L)), none, none, none, none]) (by unfold msetF; rw [ones_ev row hr _ rfl]; rfl) ?_
  refine run_seq (ρ' := envU row s ((List.range row.length).map fun j => [j]) ((List.range row.length).map fun j => [j]) none none none) (by unfold msetF; rw [ones_ev row hr _ rfl]; rfl) ?_
  have ed : downD row.length = (List.range row.length).map fun (j : Nat) => D.int ((row.length : Int) - 1 - (j : Int)) := rfl
  have one : ∀ q, q < row.length → ((List.range row.length).map fun j => [j]).getD q [] = [q] := by
    intro q hq
    rw [List.getD_eq_getElem?_getD, List.getElem?_map, List.getElem?_range hq]; rfl
  refine run_mseq (run_forN row.length (f := fun (j : Nat) => D.int ((row.length : Int) - 1 - (j : Int))) ?_
    (I := fun j ρ => ∃ U V o4 o5 o6, U.length = row.length ∧ V.length = row.length ∧ Done row s (row.length - j) U V ∧ Yet (row.length - j) U V ∧ ρ = envU row s U V o4 o5 o6) _
    ⟨_, _, _, _, _, by simp, by simp, fun q h1 h2 => by omega, fun q h1 => ⟨one q (by omega), one q (by omega)⟩, rfl⟩ ?_ ?_)
  · unfold mlist
    rw [acons_ev (x := mlen (bvar 0)) (d := .int ((row.map D.int).length : Int)) (mlen_ev rfl) anil_ev, Option.bind_some, List.length_map, rngD_ok k2, Int.toNat_natCast, ed]
  · rintro j ρ hj ⟨U, V, o4, o5, o6, hU, hV, hd, hy, rfl⟩
    refine ⟨_, rfl, ?_⟩
    have e : (row.length : Int) - 1 - (j : Int) = ((row.length - 1 - j : Nat) : Int) := by omega
    rw [e]
    have e2 : row.length - 1 - j + 1 = row.length - j := by omega
    refine inner_loop row s hr U V (row.length - 1 - j) (by omega) hU hV (by rw [e2]; exact hd) (by rw [e2]; exact hy) o5 o6 _ fun U V o5 o6 hU hV hd hy => ?_
    rw [show row.length - 1 - j = row.length - (j + 1) by omega] at hd hy
    exact ⟨U, V, _, _, _, hU, hV, hd, hy, rfl⟩
  · rintro ρ ⟨U, V, o4, o5, o6, hU, hV, hd, hy, rfl⟩
    rw [Nat.sub_self] at hd
    unfold b_tails_r2
    refine run_freeze (ds := U.map L) rfl (run_freeze (ds := V.map L) rfl ⟨_, ?_, U, V, rfl, hU, hV, hd⟩)
    unfold envU
    simp_arith [i2, if_true]
theorem key_eq (l : List Nat) : m_longer_first [L l] = some (.sh (Ky l)) := by
  unfold m_longer_first b_longer_first
  have i2 : 0 + 1 + 1 ≤ sizeLine := le_size (by decide)
  refine runB_rt ?_
  unfold L
  simp_arith [i2, if_true, List.length_map]
  rfl
theorem mem_getD {U : List (List Nat)} {m : List Nat} (h : m ∈ U) : ∃ q, q < U.length ∧ m = U.getD q [] := by
  obtain ⟨q, hq, e⟩ := List.getElem_of_mem h
  exact ⟨q, hq, by rw [List.getD_eq_getElem?_getD, List.getElem?_eq_getElem hq, ← e]; rfl⟩
theorem getD_mem {U : List (List Nat)} {q : Nat} (h : q < U.length) : U.getD q [] ∈ U := by
  rw [List.getD_eq_getElem?_getD, List.getElem?_eq_getElem h]; exact List.getElem_mem h
theorem longest_eq (row : List Int) (s : Int) (hs : 1 ≤ s) (hr : row.length ≤ 300) : ∃ l, m_longest [.lst (row.map .int), .int s] = some (.sh (L l)) ∧ Best (Wv (xr row) row.length s) l := by
  obtain ⟨U, V, et, hU, hV, hd⟩ := tails_eq row s hr
  have i0 : 0 ≤ sizeLine := Nat.zero_le _
  have ek : ∀ l, shOf (m_longer_first [L l]) = some (Ky l) := fun l => by rw [key_eq]; rfl
  have hres : ∃ l, minD (fun d => shOf (m_longer_first [d])) ((U ++ V).map L) (.lst []) = some (L l) ∧ Best (Wv (xr row) row.length s) l := by
    cases hc : U ++ V with
    | nil =>
      have : row.length = 0 := by
        have := congrArg List.length hc
        rw [List.length_append, List.length_nil] at this
        omega
      exact ⟨[], rfl, best_none this⟩
    | cons b ls =>
      obtain ⟨r, e, h1, h2⟩ := min_list (mk := fun d => shOf (m_longer_first [d])) ek ls b
      refine ⟨r, ?_, ?_⟩
      · show (match shOf (m_longer_first [L b]) with | some kd => minF _ (ls.map L) (L b) kd | none => none) = _
        rw [ek b]
        exact e
      · rw [← hc] at h1 h2
        have all : ∀ m ∈ U ++ V, ∃ d q, BT row s d q row.length m := by
          intro m hm
          rcases List.mem_append.mp hm with h | h
          · obtain ⟨q, hq, rfl⟩ := mem_getD h
            exact ⟨true, q, (hd q (Nat.zero_le _) (by omega)).1⟩
          · obtain ⟨q, hq, rfl⟩ := mem_getD h
            exact ⟨false, q, (hd q (Nat.zero_le _) (by omega)).2⟩
        refine best_all h1 h2 (fun m hm => ?_) (fun d p hp => ?_) ?_
        · obtain ⟨d, q, h⟩ := all m hm
          exact .inr ⟨d, h.1.1⟩
        · cases d
          · exact ⟨_, List.mem_append_right _ (getD_mem (q := p) (by omega)), (hd p (Nat.zero_le _) hp).2⟩
          · exact ⟨_, List.mem_append_left _ (getD_mem (q := p) (by omega)), (hd p (Nat.zero_le _) hp).1⟩
        · obtain ⟨d, q, h⟩ := all r h1
          intro z
          rw [z] at h
          exact h.1.1
  obtain ⟨l, e, hb⟩ := hres
  refine ⟨l, ?_, hb⟩
  unfold m_longest b_longest
  refine runB_run ?_
  ((apply run_seq; focus (simp_arith [refuse_step_eq s hs]; rfl)))
  refine run_seq (ρ' := [some (.sh (.lst (row.map .int))), some (.sh (.int s)), some (.sh (.lst (U.map L))), some (.sh (.lst (V.map L)))]) ?_ ?_
  · unfold masg
    rw [mcall_sh (acons_ev (d := .lst (row.map .int)) rfl (acons_ev (d := .int s) rfl anil_ev)) et]
    rfl
  · refine ⟨_, ?_, rfl⟩
    have e1 : aslst (m2 addD (mvar 2) (mvar 3)) [some (.sh (.lst (row.map .int))), some (.sh (.int s)), some (.sh (.lst (U.map L))), some (.sh (.lst (V.map L)))] = some ((U ++ V).map L) := by
      have hz : (U.map L).length + (V.map L).length ≤ sizeLine := le_size (by simp; omega)
      refine aslst_ev ?_
      unfold m2
      show (if (U.map L).length + (V.map L).length ≤ sizeLine then some (D.lst (U.map L ++ V.map L)) else none) = _
      rw [if_pos hz, List.map_append]
    have e2 : mlst (sized anil) [some (.sh (.lst (row.map .int))), some (.sh (.int s)), some (.sh (.lst (U.map L))), some (.sh (.lst (V.map L)))] = some (.lst []) := mlst_ev (sized_ev anil_ev i0)
    unfold mret
    rw [mminK_ev e1 e2, e]
    rfl
theorem how_long_eq (row : List Int) (s : Int) (l : List Nat) (h : m_longest [.lst (row.map .int), .int s] = some (.sh (L l))) : m_how_long [.lst (row.map .int), .int s] = some (.sh (.int (l.length : Int))) := by
  unfold m_how_long b_how_long
  refine runB_rt ?_
  unfold mret
  rw [mlen_ev (aslst_ev (ds := l.map dN) (mcall_sh (acons_ev (d := .lst (row.map .int)) rfl (acons_ev (d := .int s) rfl anil_ev)) h)), List.length_map]
  rfl
end Lw

set_option Elab.async false
set_option linter.all false
set_option maxRecDepth 100000
set_option maxHeartbeats 4000000
namespace Lw
open PySem L2
local macro_rules | `(tactic| simp_arith [$ls,*]) => `(tactic| simp (config := {decide := true, implicitDefEqProofs := false}) only [runB, startS, List.map_cons, List.map_nil, List.length_cons, List.length_nil, List.replicate, List.cons_append, List.nil_append, mvar, bvar, mc, mlst, aslst, m2, mtest, subD, mulD, fdivD, modD, powD, shlD, shrD, andD, ltD, leD, gtD, geD, eqSD, neSD, eqS_ii, eqS_bb, eqS_ss, eqS_nn, eqS_nb, eqS_bn, eqS_ni, eqS_in, m1, negD, notD, mand, mor, mtru, truD, cand, cor, cnot, mite, anil, acons, sized, mtup, mlen, mix, onone, osome, mcut, mcat, addD, call1, lenF, absF, max2F, min2F, two2, intF, mnext, mseq, mif, mnever, mbreak, mcont, mset, msetF, maug, mexpr, mret, mretF, mretO, mretN, mapp, msetix, mfreeze, masg, mmeth, mmeth0, strM, mcutS, strF, intTF, joinF, startsF, remPF, splitF, addSD, mlist, zip2, zip3, enum1, cyes, mcall, mcallF, meqB, misi, mrev, msetix2, tyD, int2, bl2, tgD, setAll, Option.bind_some, Option.map_some, Option.bind_none, Option.map_none, List.getElem?_cons_zero, List.getElem?_cons_succ, List.set_cons_zero, List.set_cons_succ, List.isEmpty_cons, List.isEmpty_nil, Bool.not_true, Bool.not_false, $ls,*])
theorem mpu_ev {m : ME} {ρ : Ro} {d : D} (h : m ρ = some d) : mpu m ρ = some (d, ρ) := by unfold mpu; rw [h]
theorem apu_ev {m : ML} {ρ : Ro} {d : List D} (h : m ρ = some d) : apu m ρ = some (d, ρ) := by unfold apu; rw [h]
theorem mretG_ev {i : Nat} {x : MEm} {ρ ρ1 : Ro} {d : D} {p : Addr} {r : List D} (h : x ρ = some (d, ρ1)) (h2 : ρ1[i]? = some (some (.ob p r))) : mretG i x ρ = some (.rg d p r) := by unfold mretG; rw [h]; simp only; rw [h2]
theorem mcallG_ob {f : MG} {i : Nat} {m : MLm} {ρ ρ1 : Ro} {p : Addr} {r0 r1 r2 ds : List D} {t : Rt} {d : D} (h0 : ρ[i]? = some (some (.ob p r2))) (h1 : m ρ = some (ds, ρ1)) (h2 : ρ1[i]? = some (some (.ob p r0))) (h3 : f p r0 ds = some (t, r1)) (h4 : rtD t = some d) : mcallG f i m ρ = some (d, ρ1.set i (some (.ob p r1))) := by
  unfold mcallG; rw [h0]; simp only; rw [h1]; simp only; rw [h2]; simp only; rw [h3]; simp only; rw [h4]
def envUv (pA : Addr) (row : List Int) (s : Int) (U V : List (List Nat)) (o4 o5 o6 : Option S) : Ro := [some (.ob pA (row.map .int)), some (.sh (.int s)), some (.own (U.map L)), some (.own (V.map L)), o4, o5, o6]
theorem tails_body_v (pA : Addr) (row : List Int) (s : Int) (U V : List (List Nat)) (p q : Nat) (o6 : Option S) (hU : U.length = row.length) (hV : V.length = row.length) (hp : p < row.length) (hq : q < row.length) (bU : (U.getD q []).length ≤ 1000) (bV : (V.getD q []).length ≤ 1000) (hpq : p ≠ q) :
    ∃ o6', b_tails_v9_f0 (envUv pA row s U V (some (.sh (.int (p : Int)))) (some (.sh (.int (q : Int)))) o6) = some (.nx (envUv pA row s (upU s row true U V p q) (upU s row false V U p q) (some (.sh (.int (p : Int)))) (some (.sh (.int (q : Int)))) o6')) := by
  have big := size_big
  have ap := at_nat row p hp
  have aq := at_nat row q hq
  have i1 : 0 + 1 ≤ sizeLine := le_size (by decide)
  refine ⟨some (.sh (.int (xr row q - xr row p))), ?_⟩
  unfold b_tails_v9_f0
  refine seqI (ρ' := envUv pA row s U V (some (.sh (.int (p : Int)))) (some (.sh (.int (q : Int)))) (some (.sh (.int (xr row q - xr row p))))) ?_ ?_
  · unfold envUv
    simp_arith [ap, aq]
  have go : ∀ (iU iV : Nat) (A B : List (List Nat)) (ρ : Ro), ρ[iU]? = some (some (.own (A.map L))) → ρ[iV]? = some (some (.own (B.map L))) → ρ[4]? = some (some (.sh (.int (p : Int)))) → ρ[5]? = some (some (.sh (.int (q : Int)))) → A.length = row.length → B.length = row.length → (B.getD q []).length ≤ 1000 →
      (mtest (m2 geD (mlen (aslst (mix (bvar iV) (mvar 5)))) (mlen (aslst (mix (bvar iU) (mvar 4))))) ρ = some (decide ((A.getD p []).length ≤ (B.getD q []).length))) ∧
      msetix iU (mvar 4) (mlst (mcat (sized (acons (mvar 4) anil)) (aslst (mix (bvar iV) (mvar 5))))) ρ = some (.nx (ρ.set iU (some (.own ((A.set p (p :: B.getD q [])).map L))))) := by
    intro iU iV A B ρ hA hB h4 h5 lA lB bB
    have eA : bvar iU ρ = some (A.map L) := by unfold bvar; rw [hA]
    have eB : bvar iV ρ = some (B.map L) := by unfold bvar; rw [hB]
    have e4 : mvar 4 ρ = some (.int (p : Int)) := by unfold mvar; rw [h4]
    have e5 : mvar 5 ρ = some (.int (q : Int)) := by unfold mvar; rw [h5]
    have fB : aslst (mix (bvar iV) (mvar 5)) ρ = some ((B.getD q []).map dN) := aslst_ev (mix_ev eB e5 (at_L B q (by omega)))
    have fA : aslst (mix (bvar iU) (mvar 4)) ρ = some ((A.getD p []).map dN) := aslst_ev (mix_ev eA e4 (at_L A p (by omega)))
    constructor
    · rw [tge_ev (mlen_ev fB) (mlen_ev fA)]
      congr 1
      apply decide_eq_decide.mpr
      rw [List.length_map, List.length_map]
      omega
    · have ev : mlst (mcat (sized (acons (mvar 4) anil)) (aslst (mix (bvar iV) (mvar 5)))) ρ = some (L (p :: B.getD q [])) := by
        rw [mlst_ev (mcat_ev (sized_ev (acons_ev e4 anil_ev) i1) fB (by rw [List.length_map, List.length_singleton]; omega))]
        rfl
      unfold msetix
      rw [ev, hA, e4]
      show ((ixN (A.map L).length (p : Int)).map fun j => Out.nx (ρ.set iU (some (.own ((A.map L).set j (L (p :: B.getD q []))))))) = _
      rw [List.length_map, ixN_nat _ _ (by omega)]
      show some (Out.nx _) = _
      rw [List.map_set]
  have t1 : ∀ A B o6, mtest (m2 geD (mvar 6) (mvar 1)) (envUv pA row s A B o6 (some (.sh (.int (q : Int)))) (some (.sh (.int (xr row q - xr row p))))) = some (decide (s ≤ xr row q - xr row p)) := fun A B o6 => tge_ev rfl rfl
  have t2 : ∀ A B o6, mtest (m2 geD (m1 negD (mvar 6)) (mvar 1)) (envUv pA row s A B o6 (some (.sh (.int (q : Int)))) (some (.sh (.int (xr row q - xr row p))))) = some (decide (s ≤ -(xr row q - xr row p))) := fun A B o6 => tge_ev rfl rfl
  obtain ⟨c1, c2⟩ := go 2 3 U V (envUv pA row s U V (some (.sh (.int (p : Int)))) (some (.sh (.int (q : Int)))) (some (.sh (.int (xr row q - xr row p))))) rfl rfl rfl rfl hU hV bV
  refine seqI (ρ' := envUv pA row s (upU s row true U V p q) V (some (.sh (.int (p : Int)))) (some (.sh (.int (q : Int)))) (some (.sh (.int (xr row q - xr row p))))) ?_ ?_
  · unfold mif
    rw [cand_ev (t1 _ _ _) c1]
    unfold upU
    by_cases h : s ≤ xr row q - xr row p ∧ (U.getD p []).length ≤ (V.getD q []).length
    · rw [if_pos (by simpa using h), decide_eq_true h.1, decide_eq_true h.2]
      exact c2
    · rw [if_neg (by simpa using h)]
      have : (decide (s ≤ xr row q - xr row p) && decide ((U.getD p []).length ≤ (V.getD q []).length)) = false := by
        rw [Bool.eq_false_iff]
        intro z
        rw [Bool.and_eq_true, decide_eq_true_eq, decide_eq_true_eq] at z
        exact h z
      rw [this]
      rfl
  · have hU' : (upU s row true U V p q).length = row.length := by rw [upU_len]; exact hU
    have gU : (upU s row true U V p q).getD q [] = U.getD q [] := upU_ne _ _ _ _ _ _ _ _ hpq
    obtain ⟨d1, d2⟩ := go 3 2 V (upU s row true U V p q) (envUv pA row s (upU s row true U V p q) V (some (.sh (.int (p : Int)))) (some (.sh (.int (q : Int)))) (some (.sh (.int (xr row q - xr row p))))) rfl rfl rfl rfl hV hU' (by rw [gU]; exact bU)
    rw [gU] at d1 d2
    unfold mif
    rw [cand_ev (t2 _ _ _) d1]
    have ex : upU s row false V U p q = if s ≤ xr row p - xr row q ∧ (V.getD p []).length ≤ (U.getD q []).length then V.set p (p :: U.getD q []) else V := by
      unfold upU; simp
    rw [ex]
    by_cases h : s ≤ xr row p - xr row q ∧ (V.getD p []).length ≤ (U.getD q []).length
    · rw [if_pos h, decide_eq_true (show s ≤ -(xr row q - xr row p) by omega), decide_eq_true h.2]
      exact d2
    · rw [if_neg h]
      have : (decide (s ≤ -(xr row q - xr row p)) && decide ((V.getD p []).length ≤ (U.getD q []).length)) = false := by
        rw [Bool.eq_false_iff]
        intro z
        rw [Bool.and_eq_true, decide_eq_true_eq, decide_eq_true_eq] at z
        exact h ⟨by omega, z.2⟩
      rw [this]
      rfl
theorem inner_loop_v (pA : Addr) (row : List Int) (s : Int) (hr : row.length ≤ 300) (U V : List (List Nat)) (p : Nat) (hp : p < row.length) (hU : U.length = row.length) (hV : V.length = row.length) (hd : Done row s (p + 1) U V) (hy : Yet (p + 1) U V) (o5 o6 : Option S) (Q : Out → Prop)
    (hQ : ∀ U V o5 o6, U.length = row.length → V.length = row.length → Done row s p U V → Yet p U V → Q (.nx (envUv pA row s U V (some (.sh (.int (p : Int)))) o5 o6))) :
    Run b_tails_v9_f1 (envUv pA row s U V (some (.sh (.int (p : Int)))) o5 o6) Q := by
  unfold b_tails_v9_f1
  have k1 : okR ((p : Int) + 1) = true := okR_of (by omega) (by omega)
  have k2 : okR (row.length : Int) = true := okR_of (by omega) (by omega)
  have er : rangeD ((p : Int) + 1) ((row.length : Int) - ((p : Int) + 1)).toNat = (List.range (row.length - (p + 1))).map fun (j : Nat) => D.int ((p + 1 + j : Nat) : Int) := by
    rw [rangeD_map, show ((row.length : Int) - ((p : Int) + 1)).toNat = row.length - (p + 1) by omega]
    apply List.map_congr_left
    intro i _
    congr 1
  refine run_forN (row.length - (p + 1)) (f := fun (j : Nat) => D.int ((p + 1 + j : Nat) : Int)) (by unfold envUv; simp_arith [List.length_map, rng2_ok k1 k2, er])
    (I := fun k ρ => ∃ U V o5 o6, U.length = row.length ∧ V.length = row.length ∧ Done row s (p + 1) U V ∧ Yet p U V ∧ BT row s true p (p + k) (U.getD p []) ∧ BT row s false p (p + k) (V.getD p []) ∧ ρ = envUv pA row s U V (some (.sh (.int (p : Int)))) o5 o6) _
    ⟨U, V, o5, o6, hU, hV, hd, fun q hq => hy q (by omega), by rw [(hy p (by omega)).1]; exact from_one hp, by rw [(hy p (by omega)).2]; exact from_one hp, rfl⟩ ?_ ?_
  · rintro k ρ hk ⟨U, V, o5, o6, hU, hV, hd, hy, h1, h2, rfl⟩
    refine ⟨_, rfl, ?_⟩
    obtain ⟨a, b⟩ := hd (p + 1 + k) (by omega) (by omega)
    have la := a.len
    have lb := b.len
    obtain ⟨o6', e⟩ := tails_body_v pA row s U V p (p + 1 + k) o6 hU hV hp (by omega) (by omega) (by omega) (by omega)
    obtain ⟨n1, n2⟩ := inner_step row s U V p k hU hV (by omega) hd h1 h2
    refine ⟨_, e, upU s row true U V p (p + 1 + k), upU s row false V U p (p + 1 + k), _, _, by rw [upU_len]; exact hU, by rw [upU_len]; exact hV, ?_, ?_, n1, n2, rfl⟩
    · intro q h1 h2
      rw [upU_ne _ _ _ _ _ _ _ _ (by omega), upU_ne _ _ _ _ _ _ _ _ (by omega)]
      exact hd q h1 h2
    · intro q h1
      rw [upU_ne _ _ _ _ _ _ _ _ (by omega), upU_ne _ _ _ _ _ _ _ _ (by omega)]
      exact hy q h1
  · rintro ρ ⟨U, V, o5, o6, hU, hV, hd, hy, h1, h2, rfl⟩
    refine hQ U V o5 o6 hU hV (fun q h3 h4 => ?_) hy
    rcases Nat.lt_or_ge p q with z | z
    · exact hd q (by omega) h4
    · have : q = p := by omega
      subst this
      exact ⟨from_all h1 (by omega), from_all h2 (by omega)⟩
theorem runG_rgR {n : Nat} {m : MS} {p : Addr} {r ds : List D} {R : D → Prop} (h : Run m (startG n p r ds) (fun o => ∃ d, o = .rg d p r ∧ R d)) : ∃ d, runG n m p r ds = some (.sh d, r) ∧ R d := by
  obtain ⟨o, e, d, rfl, hd⟩ := h
  exact ⟨d, by unfold runG; rw [e]; simp only [if_true], hd⟩
theorem tails_v (pA : Addr) (row : List Int) (s : Int) (hr : row.length ≤ 300) : ∃ U V : List (List Nat), m_tails_v9 pA (row.map .int) [.int s] = some (.sh (.tup [.lst (U.map L), .lst (V.map L)]), row.map .int) ∧ U.length = row.length ∧ V.length = row.length ∧ Done row s 0 U V := by
  suffices h : ∃ d, m_tails_v9 pA (row.map .int) [.int s] = some (.sh d, row.map .int) ∧ ∃ U V : List (List Nat), d = .tup [.lst (U.map L), .lst (V.map L)] ∧ U.length = row.length ∧ V.length = row.length ∧ Done row s 0 U V by
    obtain ⟨d, e, U, V, rfl, a, b, c⟩ := h
    exact ⟨U, V, e, a, b, c⟩
  refine runG_rgR ?_
  unfold b_tails_v9
  have k2 : okR (row.length : Int) = true := okR_of (by omega) (by omega)
  have i2 : 0 + 1 + 1 ≤ sizeLine := le_size (by decide)
  refine run_seq (ρ' := [some (.ob pA (row.map .int)), some (.sh (.int s)), some (.own (((List.range row.length).map fun j => [j]).map L)), none, none, none, none]) (by unfold msetF; rw [ones_ev row hr _ rfl]; rfl) ?_
  refine run_seq (ρ' := envUv pA row s ((List.range row.length).map fun j => [j]) ((List.range row.length).map fun j => [j]) none none none) (by unfold msetF; rw [ones_ev row hr _ rfl]; rfl) ?_
  have ed : downD row.length = (List.range row.length).map fun (j : Nat) => D.int ((row.length : Int) - 1 - (j : Int)) := rfl
  have one : ∀ q, q < row.length → ((List.range row.length).map fun j => [j]).getD q [] = [q] := by
    intro q hq
    rw [List.getD_eq_getElem?_getD, List.getElem?_map, List.getElem?_range hq]; rfl
  refine run_mseq (run_forN row.length (f := fun (j : Nat) => D.int ((row.length : Int) - 1 - (j : Int))) ?_
    (I := fun j ρ => ∃ U V o4 o5 o6, U.length = row.length ∧ V.length = row.length ∧ Done row s (row.length - j) U V ∧ Yet (row.length - j) U V ∧ ρ = envUv pA row s U V o4 o5 o6) _
    ⟨_, _, _, _, _, by simp, by simp, fun q h1 h2 => by omega, fun q h1 => ⟨one q (by omega), one q (by omega)⟩, rfl⟩ ?_ ?_)
  · unfold mlist
    rw [acons_ev (x := mlen (bvar 0)) (d := .int ((row.map D.int).length : Int)) (mlen_ev rfl) anil_ev, Option.bind_some, List.length_map, rngD_ok k2, Int.toNat_natCast, ed]
  · rintro j ρ hj ⟨U, V, o4, o5, o6, hU, hV, hd, hy, rfl⟩
    refine ⟨_, rfl, ?_⟩
    have e : (row.length : Int) - 1 - (j : Int) = ((row.length - 1 - j : Nat) : Int) := by omega
    rw [e]
    have e2 : row.length - 1 - j + 1 = row.length - j := by omega
    refine inner_loop_v pA row s hr U V (row.length - 1 - j) (by omega) hU hV (by rw [e2]; exact hd) (by rw [e2]; exact hy) o5 o6 _ fun U V o5 o6 hU hV hd hy => ?_
    rw [show row.length - 1 - j = row.length - (j + 1) by omega] at hd hy
    exact ⟨U, V, _, _, _, hU, hV, hd, hy, rfl⟩
  · rintro ρ ⟨U, V, o4, o5, o6, hU, hV, hd, hy, rfl⟩
    rw [Nat.sub_self] at hd
    unfold b_tails_v9_r2
    refine run_freeze (ds := U.map L) rfl (run_freeze (ds := V.map L) rfl ⟨_, mretG_ev (mpu_ev (mtup_ev (acons_ev (d := .lst (U.map L)) rfl (acons_ev (d := .lst (V.map L)) rfl anil_ev)) i2)) rfl, _, rfl, U, V, rfl, hU, hV, hd⟩)
end Lw

set_option Elab.async false
set_option linter.all false
set_option maxRecDepth 100000
set_option maxHeartbeats 4000000
namespace Lw
open PySem L2
theorem x1 (pA : Addr) (row : List Int) (s : Int) (hs : 1 ≤ s) : mexpr (mcall m_refuse_step (acons (mvar 1) anil)) [some (.ob pA (row.map .int)), some (.sh (.int s)), none, none] = some (.nx [some (.ob pA (row.map .int)), some (.sh (.int s)), none, none]) := by
  unfold mexpr; rw [mcall_sh (acons_ev (d := .int s) rfl anil_ev) (refuse_step_eq s hs)]; rfl
theorem x2 (pA : Addr) (row : List Int) (s : Int) (U V : List (List Nat)) (et : m_tails_v9 pA (row.map .int) [.int s] = some (.sh (.tup [.lst (U.map L), .lst (V.map L)]), row.map .int)) : mcallG m_tails_v9 0 (apu (acons (mvar 1) anil)) [some (.ob pA (row.map .int)), some (.sh (.int s)), none, none] = some (.tup [.lst (U.map L), .lst (V.map L)], [some (.ob pA (row.map .int)), some (.sh (.int s)), none, none]) := 
  mcallG_ob (ρ := [some (.ob pA (row.map .int)), some (.sh (.int s)), none, none]) rfl (apu_ev (acons_ev (d := .int s) rfl anil_ev)) rfl et rfl
theorem masgm_ev {g : Tg} {x : MEm} {ρ ρ1 ρ2 : Ro} {d : D} (h1 : x ρ = some (d, ρ1)) (h2 : tgD g d ρ1 = some ρ2) : masgm g x ρ = some (.nx ρ2) := by
  unfold masgm; rw [h1]; simp only [h2]
theorem x3 (pA : Addr) (row : List Int) (s : Int) (U V : List (List Nat)) (et : m_tails_v9 pA (row.map .int) [.int s] = some (.sh (.tup [.lst (U.map L), .lst (V.map L)]), row.map .int)) : masgm (.tp [2, 3]) (mcallG m_tails_v9 0 (apu (acons (mvar 1) anil))) [some (.ob pA (row.map .int)), some (.sh (.int s)), none, none] = some (.nx [some (.ob pA (row.map .int)), some (.sh (.int s)), some (.sh (.lst (U.map L))), some (.sh (.lst (V.map L)))]) :=
  masgm_ev (x2 pA row s U V et) rfl
theorem x4 (pA : Addr) (row : List Int) (s : Int) (U V : List (List Nat)) (l : List Nat) (hU : U.length = row.length) (hV : V.length = row.length) (hr : row.length ≤ 300) (e : minD (fun d => shOf (m_longer_first [d])) ((U ++ V).map L) (.lst []) = some (L l)) : mminK (fun d => shOf (m_longer_first [d])) (aslst (m2 addD (mvar 2) (mvar 3))) (mlst (sized anil)) [some (.ob pA (row.map .int)), some (.sh (.int s)), some (.sh (.lst (U.map L))), some (.sh (.lst (V.map L)))] = some (L l) := by
  have i0 : 0 ≤ sizeLine := Nat.zero_le _
  have e1 : aslst (m2 addD (mvar 2) (mvar 3)) [some (.ob pA (row.map .int)), some (.sh (.int s)), some (.sh (.lst (U.map L))), some (.sh (.lst (V.map L)))] = some ((U ++ V).map L) := by
      have hz : (U.map L).length + (V.map L).length ≤ sizeLine := le_size (by simp; omega)
      refine aslst_ev ?_
      unfold m2
      show (if (U.map L).length + (V.map L).length ≤ sizeLine then some (D.lst (U.map L ++ V.map L)) else none) = _
      rw [if_pos hz, List.map_append]
  have e2 : mlst (sized anil) [some (.ob pA (row.map .int)), some (.sh (.int s)), some (.sh (.lst (U.map L))), some (.sh (.lst (V.map L)))] = some (.lst []) := mlst_ev (sized_ev anil_ev i0)
  exact (mminK_ev e1 e2).trans e
theorem longest_run (pA : Addr) (row : List Int) (s : Int) (hs : 1 ≤ s) (U V : List (List Nat)) (l : List Nat) (hU : U.length = row.length) (hV : V.length = row.length) (hr : row.length ≤ 300) (et : m_tails_v9 pA (row.map .int) [.int s] = some (.sh (.tup [.lst (U.map L), .lst (V.map L)]), row.map .int)) (e : minD (fun d => shOf (m_longer_first [d])) ((U ++ V).map L) (.lst []) = some (L l)) :
    m_longest_v9 pA (row.map .int) [.int s] = some (.sh (L l), row.map .int) := by
  have h : b_longest_v9 [some (.ob pA (row.map .int)), some (.sh (.int s)), none, none] = some (.rg (L l) pA (row.map .int)) := by
    unfold b_longest_v9
    refine seqI (x1 pA row s hs) (seqI (x3 pA row s U V et) (mretG_ev (mpu_ev (x4 pA row s U V l hU hV hr e)) rfl))
  unfold m_longest_v9 runG
  rw [show startG 4 pA (row.map .int) [.int s] = [some (.ob pA (row.map .int)), some (.sh (.int s)), none, none] from rfl, h]
  simp only [if_true]
theorem longest_v (pA : Addr) (row : List Int) (s : Int) (hs : 1 ≤ s) (hr : row.length ≤ 300) : ∃ l, m_longest_v9 pA (row.map .int) [.int s] = some (.sh (L l), row.map .int) ∧ Best (Wv (xr row) row.length s) l := by
  obtain ⟨U, V, et, hU, hV, hd⟩ := tails_v pA row s hr
  have i0 : 0 ≤ sizeLine := Nat.zero_le _
  have ek : ∀ l, shOf (m_longer_first [L l]) = some (Ky l) := fun l => by rw [key_eq]; rfl
  have hres : ∃ l, minD (fun d => shOf (m_longer_first [d])) ((U ++ V).map L) (.lst []) = some (L l) ∧ Best (Wv (xr row) row.length s) l := by
    cases hc : U ++ V with
    | nil =>
      have : row.length = 0 := by
        have := congrArg List.length hc
        rw [List.length_append, List.length_nil] at this
        omega
      exact ⟨[], rfl, best_none this⟩
    | cons b ls =>
      obtain ⟨r, e, h1, h2⟩ := min_list (mk := fun d => shOf (m_longer_first [d])) ek ls b
      refine ⟨r, ?_, ?_⟩
      · show (match shOf (m_longer_first [L b]) with | some kd => minF _ (ls.map L) (L b) kd | none => none) = _
        rw [ek b]
        exact e
      · rw [← hc] at h1 h2
        have all : ∀ m ∈ U ++ V, ∃ d q, BT row s d q row.length m := by
          intro m hm
          rcases List.mem_append.mp hm with h | h
          · obtain ⟨q, hq, rfl⟩ := mem_getD h
            exact ⟨true, q, (hd q (Nat.zero_le _) (by omega)).1⟩
          · obtain ⟨q, hq, rfl⟩ := mem_getD h
            exact ⟨false, q, (hd q (Nat.zero_le _) (by omega)).2⟩
        refine best_all h1 h2 (fun m hm => ?_) (fun d p hp => ?_) ?_
        · obtain ⟨d, q, h⟩ := all m hm
          exact .inr ⟨d, h.1.1⟩
        · cases d
          · exact ⟨_, List.mem_append_right _ (getD_mem (q := p) (by omega)), (hd p (Nat.zero_le _) hp).2⟩
          · exact ⟨_, List.mem_append_left _ (getD_mem (q := p) (by omega)), (hd p (Nat.zero_le _) hp).1⟩
        · obtain ⟨d, q, h⟩ := all r h1
          intro z
          rw [z] at h
          exact h.1.1
  obtain ⟨l, e, hb⟩ := hres
  refine ⟨l, ?_, hb⟩
  exact longest_run pA row s hs U V l hU hV hr et e
theorem longest_new (row : List Int) (s : Int) (hs : 1 ≤ s) (hr : row.length ≤ 300) {l : List Nat} (h : Best (Wv (xr row) row.length s) l) (pA : Addr) : m_longest_v9 pA (row.map .int) [.int s] = some (.sh (L l), row.map .int) := by
  obtain ⟨m, e, hm⟩ := longest_v pA row s hs hr
  rw [h.unique hm]; exact e
end Lw

set_option Elab.async false
set_option linter.all false
set_option maxRecDepth 100000
set_option maxHeartbeats 4000000
namespace Lw
open PySem L2
section
variable {x : Nat → Int} {n : Nat} {s : Int}
def TL (x : Nat → Int) (n : Nat) (s : Int) (t : Bool → Nat → Nat) : Prop := ∀ d p, p < n → (∃ m, Wd x n s d (p :: m) ∧ (p :: m).length = t d p) ∧ ∀ m, Wd x n s d (p :: m) → (p :: m).length ≤ t d p
def lastN (f : List Nat) : Nat := f.getLastD 0
theorem lastN_app (f : List Nat) (q : Nat) : lastN (f ++ [q]) = q := by unfold lastN; simp
def Cn (x : Nat → Int) (n : Nat) (s : Int) (d : Bool) (f : List Nat) : Prop := ∀ j t, (f ≠ [] → lastN f < j ∧ far s d (x (lastN f)) (x j)) → Wd x n s (!d) (j :: t) → Wv x n s (f ++ j :: t)
def Arr (x : Nat → Int) (n : Nat) (s : Int) (d : Bool) (f : List Nat) (q : Nat) (r : List Nat) : Prop := (f ≠ [] → lastN f < q ∧ far s d (x (lastN f)) (x q)) ∧ Wd x n s (!d) (q :: r)
theorem arr_wd : ∀ (f : List Nat) (d : Bool) (p q : Nat) (r : List Nat), Wd x n s d (p :: (f ++ q :: r)) → ∃ e, Arr x n s e (p :: f) q r
  | [], d, p, q, r, h => ⟨d, fun _ => ⟨h.1, h.2.1⟩, h.2.2⟩
  | a :: f, d, p, q, r, h => by
    obtain ⟨e, h1, h2⟩ := arr_wd f (!d) a q r h.2.2
    refine ⟨e, fun _ => ?_, h2⟩
    have := h1 (by simp)
    exact this
theorem arr_of (f : List Nat) (q : Nat) (r : List Nat) (h : Wv x n s (f ++ q :: r)) : ∃ e, Arr x n s e f q r := by
  rcases h with h | ⟨d, h⟩
  · simp at h
  · cases f with
    | nil => exact ⟨!d, fun z => absurd rfl z, by rw [Bool.not_not]; exact h⟩
    | cons p f => exact arr_wd f d p q r h
theorem far_one (hs : 1 ≤ s) {d e : Bool} {a b : Int} (h1 : far s d a b) (h2 : far s e a b) : d = e := by
  unfold far at h1 h2
  cases d <;> cases e <;> simp at h1 h2 ⊢ <;> omega
theorem lx_pre : ∀ (f : List Nat) (j q : Nat) (a b : List Nat), j < q → lx (f ++ j :: a) (f ++ q :: b) = true
  | [], j, q, a, b, h => by simp [lx, h]
  | p :: f, j, q, a, b, h => by
    show (decide (p < p) || (p == p && lx (f ++ j :: a) (f ++ q :: b))) = true
    rw [lx_pre f j q a b h]; simp
def hereB (s : Int) (x : Nat → Int) (t : Bool → Nat → Nat) (f : List Nat) (left : Nat) (m : Bool → Bool) (j : Nat) (e : Bool) : Bool := (m (!e) && (f.isEmpty || decide (far s (!e) (x (lastN f)) (x j)))) && decide (t e j = left)
structure PInv (x : Nat → Int) (n : Nat) (s : Int) (l : List Nat) (j : Nat) (f : List Nat) (left : Nat) (m : Bool → Bool) : Prop where
  ex : ∃ r, l = f ++ r ∧ left = r.length ∧ (∀ q, q ∈ r → j ≤ q) ∧ ∀ q r' d, r = q :: r' → Arr x n s d f q r' → m d = true
  lt : f ≠ [] → lastN f < j
  cn : ∀ d, m d = true → Cn x n s d f
theorem wv_gt : ∀ (f : List Nat) (q : Nat) (r : List Nat), Wv x n s (f ++ q :: r) → ∀ p ∈ r, q < p := by
  intro f q r h
  obtain ⟨e, _, h⟩ := arr_of f q r h
  have : ∀ (r : List Nat) (d : Bool) (q : Nat), Wd x n s d (q :: r) → ∀ p ∈ r, q < p := by
    intro r
    induction r with
    | nil => intro d q _ p hp; simp at hp
    | cons a r ih =>
      intro d q h p hp
      rcases List.mem_cons.mp hp with z | z
      · rw [z]; exact h.1
      · exact Nat.lt_trans h.1 (ih _ _ h.2.2 p z)
  exact this r _ q h
theorem pick_step (hs : 1 ≤ s) {t : Bool → Nat → Nat} (ht : TL x n s t) {l : List Nat} (hl : Best (Wv x n s) l) {j : Nat} (hj : j < n) {f : List Nat} {left : Nat} {m : Bool → Bool} (I : PInv x n s l j f left m) :
    (0 < left ∧ (hereB s x t f left m j true || hereB s x t f left m j false) = true ∧ PInv x n s l (j + 1) (f ++ [j]) (left - 1) (hereB s x t f left m j)) ∨
    ((0 < left → (hereB s x t f left m j true || hereB s x t f left m j false) = false) ∧ PInv x n s l (j + 1) f left m) := by
  obtain ⟨r, hr, hleft, hge, hcm⟩ := I.ex
  have here : ∀ e, hereB s x t f left m j e = true ↔ m (!e) = true ∧ (f ≠ [] → far s (!e) (x (lastN f)) (x j)) ∧ t e j = left := by
    intro e
    unfold hereB
    rw [Bool.and_eq_true, Bool.and_eq_true, decide_eq_true_eq, Bool.or_eq_true, decide_eq_true_eq, List.isEmpty_iff]
    constructor
    · rintro ⟨⟨a, b⟩, c⟩
      exact ⟨a, fun z => b.resolve_left z, c⟩
    · rintro ⟨a, b, c⟩
      refine ⟨⟨a, ?_⟩, c⟩
      by_cases z : f = []
      · exact .inl z
      · exact .inr (b z)
  cases hc : r with
  | nil =>
    rw [hc] at hr hleft
    have : left = 0 := hleft
    refine .inr ⟨fun z => by omega, ⟨⟨[], hr, hleft, fun q hq => by simp at hq, fun q r' d e => by cases e⟩, fun z => by have := I.lt z; omega, I.cn⟩⟩
  | cons q r' =>
    rw [hc] at hr hleft hge
    have hleft : left = r'.length + 1 := hleft
    have hq : j ≤ q := hge q (by simp)
    have hwv : Wv x n s (f ++ q :: r') := by rw [← hr]; exact hl.1
    have hlen : l.length = f.length + left := by rw [hr, List.length_append, List.length_cons]; omega
    rcases Nat.lt_or_ge j q with z | z
    · have none : ∀ e, hereB s x t f left m j e = false := by
        intro e
        rw [← Bool.not_eq_true]
        intro w
        obtain ⟨a, b, c⟩ := (here e).mp w
        obtain ⟨⟨m', h1, h2⟩, _⟩ := ht e j hj
        have := I.cn (!e) a j m' (fun y => ⟨I.lt y, b y⟩) (by rw [Bool.not_not]; exact h1)
        have ah := hl.2 _ this
        have : ahead (f ++ j :: m') l = true := by
          rw [ahead_iff]
          refine .inr ⟨?_, ?_⟩
          · rw [hlen, List.length_append, h2, c]
          · rw [hr]; exact lx_pre f j q m' r' z
        rw [this] at ah; cases ah
      refine .inr ⟨fun _ => by rw [none, none]; rfl, ⟨⟨q :: r', hr, by rw [hleft]; rfl, fun p hp => ?_, fun q' r'' d e h => hcm q' r'' d (by rw [hc]; exact e) h⟩, fun y => by have := I.lt y; omega, I.cn⟩⟩
      rcases List.mem_cons.mp hp with w | w
      · rw [w]; omega
      · have := wv_gt f q r' hwv p w; omega
    · have e : j = q := by omega
      subst e
      obtain ⟨d0, ha, hd⟩ := arr_of f j r' hwv
      have hm0 : m d0 = true := hcm j r' d0 hc ⟨ha, hd⟩
      have ht0 : t (!d0) j = left := by
        obtain ⟨⟨m', h1, h2⟩, h3⟩ := ht (!d0) j hj
        have a := h3 r' hd
        have b := hl.len _ (I.cn d0 hm0 j m' ha h1)
        rw [hlen, List.length_append, h2] at b
        rw [List.length_cons] at a
        omega
      have h0 : hereB s x t f left m j (!d0) = true := (here (!d0)).mpr ⟨by rw [Bool.not_not]; exact hm0, fun y => by rw [Bool.not_not]; exact (ha y).2, ht0⟩
      refine .inl ⟨by omega, ?_, ⟨⟨r', by rw [hr]; simp, by omega, fun p hp => wv_gt f j r' hwv p hp, ?_⟩, fun _ => by rw [lastN_app]; omega, ?_⟩⟩
      · cases d0
        · rw [show hereB s x t f left m j true = true from h0]; rfl
        · rw [show hereB s x t f left m j false = true from h0]; exact Bool.or_true _
      · rintro q2 r2 d e ⟨h1, h2⟩
        subst e
        have h1 := h1 (by simp)
        rw [lastN_app] at h1
        have : d = !d0 := far_one hs h1.2 hd.2.1
        rw [this]; exact h0
      · intro e he j' t' h1 h2
        obtain ⟨a, b, c⟩ := (here e).mp he
        have h1 := h1 (by simp)
        rw [lastN_app] at h1
        have := I.cn (!e) a j (j' :: t') (fun y => ⟨I.lt y, b y⟩) (by rw [Bool.not_not]; exact ⟨h1.1, h1.2, h2⟩)
        rw [List.append_assoc]; exact this
theorem pick_start {l : List Nat} (hl : Best (Wv x n s) l) : PInv x n s l 0 [] l.length fun _ => true where
  ex := ⟨l, rfl, rfl, fun q _ => Nat.zero_le _, fun _ _ _ _ _ => rfl⟩
  lt := fun z => absurd rfl z
  cn := fun d _ j t _ h => .inr ⟨_, h⟩
theorem pick_end {l : List Nat} (hl : Best (Wv x n s) l) {f : List Nat} {left : Nat} {m : Bool → Bool} (I : PInv x n s l n f left m) : f = l := by
  obtain ⟨r, hr, _, hge, _⟩ := I.ex
  cases r with
  | nil => rw [hr]; simp
  | cons q r =>
    have := hge q (by simp)
    obtain ⟨d, _, h⟩ := arr_of f q r (by rw [← hr]; exact hl.1)
    have := h.lt
    omega
theorem tl_rec {t : Bool → Nat → Nat} (ht : TL x n s t) (d : Bool) (p : Nat) (hp : p < n) (v : Nat) (h1 : ∀ q, p < q → q < n → far s d (x p) (x q) → t (!d) q ≤ v) (h2 : v = 0 ∨ ∃ q, p < q ∧ q < n ∧ far s d (x p) (x q) ∧ t (!d) q = v) : t d p = 1 + v := by
  obtain ⟨⟨m, a, b⟩, c⟩ := ht d p hp
  have up : t d p ≤ 1 + v := by
    cases m with
    | nil => rw [← b]; simp
    | cons q m =>
      obtain ⟨e1, e2, e3⟩ := a
      have := h1 q e1 e3.lt e2
      have := (ht (!d) q e3.lt).2 m e3
      rw [← b, List.length_cons]; omega
  have lo : 1 + v ≤ t d p := by
    rcases h2 with z | ⟨q, z1, z2, z3, z4⟩
    · have := c [] hp
      simp at this; omega
    · obtain ⟨⟨m', a', b'⟩, _⟩ := ht (!d) q z2
      have := c (q :: m') ⟨z1, z3, a'⟩
      rw [List.length_cons, b', z4] at this; omega
  omega
theorem tl_most {t : Bool → Nat → Nat} (ht : TL x n s t) {l : List Nat} (hl : Best (Wv x n s) l) : (∀ d p, p < n → t d p ≤ l.length) ∧ (l.length = 0 ∨ ∃ d p, p < n ∧ t d p = l.length) := by
  have h1 : ∀ d p, p < n → t d p ≤ l.length := fun d p hp => by
    obtain ⟨⟨m, a, b⟩, c⟩ := ht d p hp
    rw [← b]
    exact hl.len _ (.inr ⟨d, a⟩)
  refine ⟨h1, ?_⟩
  cases hc : l with
  | nil => exact .inl rfl
  | cons p m =>
    right
    have hw := hl.1
    rw [hc] at hw
    rcases hw with z | ⟨d, z⟩
    · cases z
    · have a := (ht d p z.lt).2 m z
      have b := h1 d p z.lt
      rw [hc] at b
      exact ⟨d, p, z.lt, by omega⟩
end
end Lw

set_option Elab.async false
set_option linter.all false
set_option maxRecDepth 100000
set_option maxHeartbeats 4000000
namespace Lw
open PySem L2
theorem m2_at2 {f : D → D → Option D} {x y : ME} {ρ : Ro} {a b : D} (h1 : x ρ = some a) (h2 : y ρ = some b) : m2 f x y ρ = f a b := by
  unfold m2; rw [h1, h2]; rfl
def tl (U V : List (List Nat)) (d : Bool) (p : Nat) : Nat := if d then (U.getD p []).length else (V.getD p []).length
theorem bt_len {row : List Int} {s : Int} {d : Bool} {p : Nat} {l : List Nat} (h : BT row s d p row.length l) : (∃ m, Wd (xr row) row.length s d (p :: m) ∧ (p :: m).length = l.length) ∧ ∀ m, Wd (xr row) row.length s d (p :: m) → (p :: m).length ≤ l.length := by
  refine ⟨?_, fun m hm => Best.len h _ (wd_from hm)⟩
  rcases h.1.2 with e | ⟨q, m, e, _⟩
  · exact ⟨[], by rw [← e]; exact h.1.1, by rw [e]⟩
  · exact ⟨q :: m, by rw [← e]; exact h.1.1, by rw [e]⟩
theorem tl_of {row : List Int} {s : Int} {U V : List (List Nat)} (hd : Done row s 0 U V) : TL (xr row) row.length s (tl U V) := by
  intro d p hp
  obtain ⟨a, b⟩ := hd p (Nat.zero_le _) hp
  cases d
  · exact bt_len b
  · exact bt_len a
theorem max_nat (ns : List Nat) : ∃ v : Nat, maxI (0 :: ns.map fun (k : Nat) => (k : Int)) = (v : Int) ∧ (∀ y ∈ ns, y ≤ v) ∧ (v = 0 ∨ v ∈ ns) := by
  have hm : maxI (0 :: ns.map fun (k : Nat) => (k : Int)) ∈ 0 :: ns.map fun (k : Nat) => (k : Int) := maxI_mem (by simp)
  have hg : ∀ y ∈ ns, (y : Int) ≤ maxI (0 :: ns.map fun (k : Nat) => (k : Int)) := fun y hy => maxI_ge (List.mem_cons_of_mem _ (List.mem_map.mpr ⟨y, hy, rfl⟩))
  generalize maxI (0 :: ns.map fun (k : Nat) => (k : Int)) = w at hm hg
  rcases List.mem_cons.mp hm with h | h
  · exact ⟨0, by rw [h]; rfl, fun y hy => by have := hg y hy; omega, .inl rfl⟩
  · obtain ⟨y, hy, e⟩ := List.mem_map.mp h
    exact ⟨y, e.symm, fun z hz => by have := hg z hz; rw [← e] at this; omega, .inr hy⟩
def RT (t : Nat → Nat) (n k : Nat) : List Nat := (List.range k).map fun i => t (n - 1 - i)
theorem rt_succ (t : Nat → Nat) (n k : Nat) : RT t n (k + 1) = RT t n k ++ [t (n - 1 - k)] := by unfold RT; rw [List.range_succ, List.map_append]; rfl
theorem rt_len (t : Nat → Nat) (n k : Nat) : (RT t n k).length = k := by unfold RT; simp
theorem rt_rev (t : Nat → Nat) (n : Nat) : (RT t n n).reverse = (List.range n).map t := by
  unfold RT
  apply List.ext_getElem
  · simp
  · intro i h1 h2
    simp at h1 h2
    simp [List.getElem_reverse]
    congr 1
    omega
theorem at_rt (t : Nat → Nat) (n k i : Nat) (h : i < k) : atI ((RT t n k).map dN) (i : Int) = some (.int ((t (n - 1 - i) : Nat) : Int)) := by
  have := atI_map dN (RT t n k) (i : Int) (by omega) (by rw [rt_len]; omega) 0
  rw [this, Int.toNat_natCast]
  unfold RT
  rw [List.getD_eq_getElem?_getD, List.getElem?_map, List.getElem?_range h]; rfl
theorem at_ft (t : Nat → Nat) (n i : Nat) (h : i < n) : atI (((List.range n).map t).map dN) (i : Int) = some (.int ((t i : Nat) : Int)) := by
  have := atI_map dN ((List.range n).map t) (i : Int) (by omega) (by simp; omega) 0
  rw [this, Int.toNat_natCast, List.getD_eq_getElem?_getD, List.getElem?_map, List.getElem?_range h]; rfl
def envD (row : List Int) (s : Int) (A B : List Nat) (o4 o5 o6 : Option S) : Ro := [some (.sh (.lst (row.map .int))), some (.sh (.int s)), some (.own (A.map dN)), some (.own (B.map dN)), o4, o5, o6, none, none, none, none]
theorem comp_far (row : List Int) (s : Int) (t : Nat → Nat) (d : Bool) (k : Nat) (hk : k < row.length) (hr : row.length ≤ 300) (c : MB) (ρ : Ro) (j : Nat) (A : List Nat) (hA : bvar 2 ρ = some (A.map dN)) (lA : A.length = k)
    (hb : blkRoO [none, some j, some 0, some 1, some 4] ρ = [none, some (.own ((RT t row.length k).map dN)), some (.sh (.lst (row.map .int))), some (.sh (.int s)), some (.sh (.int ((row.length - 1 - k : Nat) : Int)))])
    (hc : ∀ i, i < k → c [some (.sh (.int (i : Int))), some (.own ((RT t row.length k).map dN)), some (.sh (.lst (row.map .int))), some (.sh (.int s)), some (.sh (.int ((row.length - 1 - k : Nat) : Int)))] = some (decide (far s d (xr row (row.length - 1 - k)) (xr row (row.length - 1 - i))))) :
    mcompO [none, some j, some 0, some 1, some 4] (mlist rng1 (acons (mlen (bvar 2)) anil)) (.nm 0) c (mix (bvar 1) (mvar 0)) ρ = some ((((List.range k).filter fun i => decide (far s d (xr row (row.length - 1 - k)) (xr row (row.length - 1 - i)))).map fun i => t (row.length - 1 - i)).map dN) := by
  have big := size_big
  have k1 : okR (k : Int) = true := okR_of (by omega) (by omega)
  have er : mlist rng1 (acons (mlen (bvar 2)) anil) ρ = some ((List.range k).map dN) := by
    unfold mlist
    rw [acons_ev (mlen_ev hA) anil_ev, Option.bind_some, List.length_map, lA, rng1_ok k1, Int.toNat_natCast, rangeD_li, List.map_map]; rfl
  unfold mcompO
  rw [er, Option.bind_some, hb]
  have : ∀ (ds : List Nat), (∀ i ∈ ds, i < k) → ∀ acc o, acc.length + ds.length ≤ sizeLine → compD (.nm 0) c (mix (bvar 1) (mvar 0)) (ds.map dN) [o, some (.own ((RT t row.length k).map dN)), some (.sh (.lst (row.map .int))), some (.sh (.int s)), some (.sh (.int ((row.length - 1 - k : Nat) : Int)))] acc = some (acc ++ (ds.filter fun i => decide (far s d (xr row (row.length - 1 - k)) (xr row (row.length - 1 - i)))).map fun i => D.int ((t (row.length - 1 - i) : Nat) : Int)) := by
    intro ds hds acc o hl
    refine compD_filter (f := dN) (p := fun i => decide (far s d (xr row (row.length - 1 - k)) (xr row (row.length - 1 - i)))) (G := fun i => D.int ((t (row.length - 1 - i) : Nat) : Int)) (fun es ρ => (∀ i ∈ es, i < k) ∧ ∃ o, ρ = [o, some (.own ((RT t row.length k).map dN)), some (.sh (.lst (row.map .int))), some (.sh (.int s)), some (.sh (.int ((row.length - 1 - k : Nat) : Int)))]) ?_ ds _ acc ⟨hds, _, rfl⟩ hl
    rintro i es ρ ⟨hi, o, rfl⟩
    exact ⟨_, rfl, hc i (hi i (by simp)), fun _ => mix_ev (ds := (RT t row.length k).map dN) (k := (i : Int)) rfl rfl (at_rt t row.length k i (hi i (by simp))), fun z hz => hi z (by simp [hz]), _, rfl⟩
  rw [this (List.range k) (fun i hi => List.mem_range.mp hi) [] none (by simp; omega), List.nil_append, List.map_map]
  rfl
theorem far_max {row : List Int} {s : Int} {t : Bool → Nat → Nat} (ht : TL (xr row) row.length s t) (d : Bool) (k : Nat) (hk : k < row.length) :
    maxI (0 :: (((List.range k).filter fun i => decide (far s d (xr row (row.length - 1 - k)) (xr row (row.length - 1 - i)))).map fun i => t (!d) (row.length - 1 - i)).map fun (k : Nat) => (k : Int)) + 1 = ((t d (row.length - 1 - k) : Nat) : Int) := by
  obtain ⟨v, e, h1, h2⟩ := max_nat (((List.range k).filter fun i => decide (far s d (xr row (row.length - 1 - k)) (xr row (row.length - 1 - i)))).map fun i => t (!d) (row.length - 1 - i))
  have g1 : ∀ q, row.length - 1 - k < q → q < row.length → far s d (xr row (row.length - 1 - k)) (xr row q) → t (!d) q ≤ v := fun q a b c => h1 _ (by
    refine List.mem_map.mpr ⟨row.length - 1 - q, List.mem_filter.mpr ⟨List.mem_range.mpr (by omega), ?_⟩, by rw [show row.length - 1 - (row.length - 1 - q) = q by omega]⟩
    rw [show row.length - 1 - (row.length - 1 - q) = q by omega]
    exact decide_eq_true c)
  have g2 : v = 0 ∨ ∃ q, row.length - 1 - k < q ∧ q < row.length ∧ far s d (xr row (row.length - 1 - k)) (xr row q) ∧ t (!d) q = v := by
    rcases h2 with z | z
    · exact .inl z
    · obtain ⟨i, hi, ei⟩ := List.mem_map.mp z
      obtain ⟨hi1, hi2⟩ := List.mem_filter.mp hi
      have := List.mem_range.mp hi1
      exact .inr ⟨row.length - 1 - i, by omega, by omega, of_decide_eq_true hi2, ei⟩
  rw [e, tl_rec ht d (row.length - 1 - k) (by omega) v g1 g2]
  omega
theorem dns (ns : List Nat) : ns.map dN = (ns.map fun (k : Nat) => (k : Int)).map .int := by rw [List.map_map]; rfl
theorem app_ev (i j : Nat) (ρ : Ro) (A ns : List Nat) (w : Nat) (hA : ρ[i]? = some (some (.own (A.map dN)))) (lA : A.length ≤ 300) (hn : bvar j ρ = some (ns.map dN)) (ln : ns.length ≤ 300) (hw : maxI (0 :: ns.map fun (k : Nat) => (k : Int)) + 1 = (w : Int)) :
    mapp i (m2 addD (mc (.int 1)) (mmaxL (mcat (sized (acons (mc (.int 0)) anil)) (bvar j)))) ρ = some (.nx (ρ.set i (some (.own ((A ++ [w]).map dN))))) := by
  have big := size_big
  have c1 := mcat_ev (sized_ev (m := acons (mc (.int 0)) anil) (ρ := ρ) (acons_ev (d := .int 0) rfl anil_ev) (le_size (by simp))) hn (by simp; omega)
  have c2 := mmaxL_ev (m := mcat (sized (acons (mc (.int 0)) anil)) (bvar j)) (ρ := ρ) (x := 0) (r := ns.map fun (k : Nat) => (k : Int)) (by rw [c1, dns]; rfl)
  have c3 : m2 addD (mc (.int 1)) (mmaxL (mcat (sized (acons (mc (.int 0)) anil)) (bvar j))) ρ = some (.int (w : Int)) := by
    refine (m2_at2 (a := .int 1) rfl c2).trans ?_
    show some (D.int (1 + _)) = _
    rw [Int.add_comm, hw]
  unfold mapp
  rw [c3, hA]
  show (if (A.map dN).length < sizeLine then _ else none) = _
  rw [if_pos (by rw [List.length_map]; omega), List.map_append]; rfl
theorem fil_len (k : Nat) (p : Nat → Bool) (f : Nat → Nat) : (((List.range k).filter p).map f).length ≤ k := by
  rw [List.length_map]
  exact Nat.le_trans (List.length_filter_le _ _) (by simp)
theorem due_fill (row : List Int) (s : Int) (hr : row.length ≤ 300) {t : Bool → Nat → Nat} (ht : TL (xr row) row.length s t) (k : Nat) (hk : k < row.length) (o5 o6 : Option S) :
    ∃ o5' o6', b_law_due_f0 (envD row s (RT (t true) row.length k) (RT (t false) row.length k) (some (.sh (.int ((row.length - 1 - k : Nat) : Int)))) o5 o6) = some (.nx (envD row s (RT (t true) row.length (k + 1)) (RT (t false) row.length (k + 1)) (some (.sh (.int ((row.length - 1 - k : Nat) : Int)))) o5' o6')) := by
  have hlen : ∀ (o1 : Option S) (i : Nat), mlen (bvar 2) [some (.sh (.int (i : Int))), o1, some (.sh (.lst (row.map .int))), some (.sh (.int s)), some (.sh (.int ((row.length - 1 - k : Nat) : Int)))] = some (.int (row.length : Int)) := fun o1 i => by
    rw [mlen_ev (show bvar 2 _ = some (row.map .int) from rfl), List.length_map]
  have hix : ∀ (o1 : Option S) (i : Nat), i < k → mix (bvar 2) (m2 subD (m2 subD (mlen (bvar 2)) (mc (.int 1))) (mvar 0)) [some (.sh (.int (i : Int))), o1, some (.sh (.lst (row.map .int))), some (.sh (.int s)), some (.sh (.int ((row.length - 1 - k : Nat) : Int)))] = some (.int (xr row (row.length - 1 - i))) := fun o1 i hi => by
    refine mix_ev (ds := row.map .int) (k := ((row.length - 1 - i : Nat) : Int)) rfl ?_ (at_nat row (row.length - 1 - i) (by omega))
    refine (m2_at2 (a := .int ((row.length : Int) - 1)) (b := .int (i : Int)) ((m2_at2 (hlen o1 i) rfl).trans rfl) rfl).trans ?_
    show some (D.int ((row.length : Int) - 1 - (i : Int))) = _
    congr 2; omega
  have hpl : ∀ (o1 : Option S) (i : Nat), mix (bvar 2) (mvar 4) [some (.sh (.int (i : Int))), o1, some (.sh (.lst (row.map .int))), some (.sh (.int s)), some (.sh (.int ((row.length - 1 - k : Nat) : Int)))] = some (.int (xr row (row.length - 1 - k))) := fun o1 i =>
    mix_ev (ds := row.map .int) (k := ((row.length - 1 - k : Nat) : Int)) rfl rfl (at_nat row (row.length - 1 - k) (by omega))
  have c1 : ∀ (o1 : Option S) (i : Nat), i < k → mtest (m2 geD (mix (bvar 2) (m2 subD (m2 subD (mlen (bvar 2)) (mc (.int 1))) (mvar 0))) (m2 addD (mix (bvar 2) (mvar 4)) (mvar 3))) [some (.sh (.int (i : Int))), o1, some (.sh (.lst (row.map .int))), some (.sh (.int s)), some (.sh (.int ((row.length - 1 - k : Nat) : Int)))] = some (decide (far s true (xr row (row.length - 1 - k)) (xr row (row.length - 1 - i)))) := fun o1 i hi => by
    refine (mtest_bl ((m2_at2 (hix o1 i hi) ((m2_at2 (hpl o1 i) (b := .int s) rfl).trans rfl)).trans rfl)).trans ?_
    congr 1
    apply decide_eq_decide.mpr
    show xr row (row.length - 1 - k) + s ≤ xr row (row.length - 1 - i) ↔ s ≤ xr row (row.length - 1 - i) - xr row (row.length - 1 - k)
    omega
  have c2 : ∀ (o1 : Option S) (i : Nat), i < k → mtest (m2 leD (mix (bvar 2) (m2 subD (m2 subD (mlen (bvar 2)) (mc (.int 1))) (mvar 0))) (m2 subD (mix (bvar 2) (mvar 4)) (mvar 3))) [some (.sh (.int (i : Int))), o1, some (.sh (.lst (row.map .int))), some (.sh (.int s)), some (.sh (.int ((row.length - 1 - k : Nat) : Int)))] = some (decide (far s false (xr row (row.length - 1 - k)) (xr row (row.length - 1 - i)))) := fun o1 i hi => by
    refine (mtest_bl ((m2_at2 (hix o1 i hi) ((m2_at2 (hpl o1 i) (b := .int s) rfl).trans rfl)).trans rfl)).trans ?_
    congr 1
    apply decide_eq_decide.mpr
    show xr row (row.length - 1 - i) ≤ xr row (row.length - 1 - k) - s ↔ s ≤ xr row (row.length - 1 - k) - xr row (row.length - 1 - i)
    omega
  have e1 := comp_far row s (t false) true k hk hr (mtest (m2 geD (mix (bvar 2) (m2 subD (m2 subD (mlen (bvar 2)) (mc (.int 1))) (mvar 0))) (m2 addD (mix (bvar 2) (mvar 4)) (mvar 3)))) (envD row s (RT (t true) row.length k) (RT (t false) row.length k) (some (.sh (.int ((row.length - 1 - k : Nat) : Int)))) o5 o6) 3 (RT (t true) row.length k) rfl (rt_len _ _ _) rfl (fun i hi => c1 _ i hi)
  have l1 := fil_len k (fun i => decide (far s true (xr row (row.length - 1 - k)) (xr row (row.length - 1 - i)))) (fun i => t false (row.length - 1 - i))
  have w1 := far_max ht true k hk
  rw [Bool.not_true] at w1
  generalize ((List.range k).filter fun i => decide (far s true (xr row (row.length - 1 - k)) (xr row (row.length - 1 - i)))).map (fun i => t false (row.length - 1 - i)) = hi at e1 l1 w1
  have e2 := comp_far row s (t true) false k hk hr (mtest (m2 leD (mix (bvar 2) (m2 subD (m2 subD (mlen (bvar 2)) (mc (.int 1))) (mvar 0))) (m2 subD (mix (bvar 2) (mvar 4)) (mvar 3)))) (envD row s (RT (t true) row.length k) (RT (t false) row.length k) (some (.sh (.int ((row.length - 1 - k : Nat) : Int)))) (some (.sh (.lst (hi.map dN)))) o6) 2 (RT (t true) row.length k) rfl (rt_len _ _ _) rfl (fun i hi => c2 _ i hi)
  have l2 := fil_len k (fun i => decide (far s false (xr row (row.length - 1 - k)) (xr row (row.length - 1 - i)))) (fun i => t true (row.length - 1 - i))
  have w2 := far_max ht false k hk
  rw [Bool.not_false] at w2
  generalize ((List.range k).filter fun i => decide (far s false (xr row (row.length - 1 - k)) (xr row (row.length - 1 - i)))).map (fun i => t true (row.length - 1 - i)) = lo at e2 l2 w2
  refine ⟨some (.sh (.lst (hi.map dN))), some (.sh (.lst (lo.map dN))), ?_⟩
  unfold b_law_due_f0
  refine seqI (ρ' := envD row s (RT (t true) row.length k) (RT (t false) row.length k) (some (.sh (.int ((row.length - 1 - k : Nat) : Int)))) (some (.sh (.lst (hi.map dN)))) o6) ((mset_ev (mlst_ev e1)).trans rfl) ?_
  refine seqI (ρ' := envD row s (RT (t true) row.length k) (RT (t false) row.length k) (some (.sh (.int ((row.length - 1 - k : Nat) : Int)))) (some (.sh (.lst (hi.map dN)))) (some (.sh (.lst (lo.map dN))))) ((mset_ev (mlst_ev e2)).trans rfl) ?_
  rw [rt_succ, rt_succ]
  refine seqI (ρ' := envD row s (RT (t true) row.length k ++ [t true (row.length - 1 - k)]) (RT (t false) row.length k) (some (.sh (.int ((row.length - 1 - k : Nat) : Int)))) (some (.sh (.lst (hi.map dN)))) (some (.sh (.lst (lo.map dN))))) ((app_ev 2 5 _ (RT (t true) row.length k) hi _ rfl (by rw [rt_len]; omega) rfl (by omega) w1).trans rfl) ?_
  exact (app_ev 3 6 _ (RT (t false) row.length k) lo _ rfl (by rw [rt_len]; omega) rfl (by omega) w2).trans rfl
end Lw

set_option Elab.async false
set_option linter.all false
set_option maxRecDepth 100000
set_option maxHeartbeats 4000000
namespace Lw
open PySem L2
def envF (row : List Int) (s : Int) (t : Bool → Nat → Nat) (o4 o5 o6 : Option S) (f : List Nat) (left : Nat) (m : Bool → Bool) (o10 : Option S) : Ro := [some (.sh (.lst (row.map .int))), some (.sh (.int s)), some (.own (((List.range row.length).map (t true)).map dN)), some (.own (((List.range row.length).map (t false)).map dN)), o4, o5, o6, some (.own (f.map dN)), some (.sh (.int (left : Int))), some (.sh (.lst [.bl (m true), .bl (m false)])), o10]
theorem at_last (f : List Nat) (h : f ≠ []) : atI (f.map dN) (-1) = some (.int ((lastN f : Nat) : Int)) := by
  have := atI_last dN f.dropLast (f.getLast h)
  rw [List.dropLast_concat_getLast h] at this
  rw [this]
  unfold lastN
  rw [List.getLastD_eq_getLast?, List.getLast?_eq_some_getLast h]
  rfl
theorem in_two (a b : Bool) : inD false (.bl true) (.lst [.bl a, .bl b]) = some (.bl (a || b)) := by
  cases a <;> cases b <;> rfl
theorem eq_nat (a b : Nat) : eqSD (.int (a : Int)) (.int (b : Int)) = some (.bl (decide (a = b))) := by
  show some (D.bl ((a : Int) == (b : Int))) = _
  by_cases h : a = b
  · rw [h, beq_self_eq_true, decide_eq_true rfl]
  · rw [decide_eq_false h, beq_eq_false_iff_ne.mpr (by omega)]
theorem pick_run (row : List Int) (s : Int) (hr : row.length ≤ 300) (t : Bool → Nat → Nat) (j : Nat) (hj : j < row.length) (o5 o6 o10 : Option S) (f : List Nat) (left : Nat) (m : Bool → Bool) (hf : f.length ≤ 300) (hlt : f ≠ [] → lastN f < j) (hm : f = [] → m = fun _ => true) :
    ∃ o10', b_law_due_f1 (envF row s t (some (.sh (.int (j : Int)))) o5 o6 f left m o10) = some (.nx (if 0 < left ∧ (hereB s (xr row) t f left m j true || hereB s (xr row) t f left m j false) = true then envF row s t (some (.sh (.int (j : Int)))) o5 o6 (f ++ [j]) (left - 1) (hereB s (xr row) t f left m j) o10' else envF row s t (some (.sh (.int (j : Int)))) o5 o6 f left m o10')) := by
  have big := size_big
  have i2 : 2 ≤ sizeLine := le_size (by decide)
  refine ⟨some (.sh (.lst [.bl (hereB s (xr row) t f left m j true), .bl (hereB s (xr row) t f left m j false)])), ?_⟩
  unfold b_law_due_f1
  refine seqI (ρ' := envF row s t (some (.sh (.int (j : Int)))) o5 o6 f left m (some (.sh (.lst [.bl (m true), .bl (m false)])))) ((mset_ev (mlst_ev (ds := [.bl (m true), .bl (m false)]) rfl)).trans rfl) ?_
  -- which ways the next may go
  let g : Bool → Bool := fun e => m (!e) && (f.isEmpty || decide (far s (!e) (xr row (lastN f)) (xr row j)))
  refine seqI (ρ' := envF row s t (some (.sh (.int (j : Int)))) o5 o6 f left m (some (.sh (.lst [.bl (g true), .bl (g false)])))) ?_ ?_
  · have et := eqB_nil (m := bvar 7) (ρ := envF row s t (some (.sh (.int (j : Int)))) o5 o6 f left m (some (.sh (.lst [.bl (m true), .bl (m false)])))) (ds := f.map dN) rfl
    unfold mif
    by_cases hc : f = []
    · subst hc
      rw [et]
      show some (Out.nx _) = _
      have hm := hm rfl
      subst hm
      rfl
    · have hne : (!(f.map dN).isEmpty) = true := by
        cases f with
        | nil => exact absurd rfl hc
        | cons a f => rfl
      rw [et, hne]
      have a1 : mix (bvar 0) (mvar 4) (envF row s t (some (.sh (.int (j : Int)))) o5 o6 f left m (some (.sh (.lst [.bl (m true), .bl (m false)])))) = some (.int (xr row j)) := mix_ev (ds := row.map .int) (k := (j : Int)) rfl rfl (at_nat row j hj)
      have hl := hlt hc
      have a2 : mix (bvar 0) (mix (bvar 7) (m1 negD (mc (.int 1)))) (envF row s t (some (.sh (.int (j : Int)))) o5 o6 f left m (some (.sh (.lst [.bl (m true), .bl (m false)])))) = some (.int (xr row (lastN f))) :=
        mix_ev (ds := row.map .int) (k := ((lastN f : Nat) : Int)) rfl (mix_ev (ds := f.map dN) (k := -1) rfl rfl (at_last f hc)) (at_nat row (lastN f) (by omega))
      have a3 : mix (bvar 9) (mc (.int 1)) (envF row s t (some (.sh (.int (j : Int)))) o5 o6 f left m (some (.sh (.lst [.bl (m true), .bl (m false)])))) = some (.bl (m false)) := mix_ev (ds := [.bl (m true), .bl (m false)]) (k := 1) rfl rfl rfl
      have a4 : mix (bvar 9) (mc (.int 0)) (envF row s t (some (.sh (.int (j : Int)))) o5 o6 f left m (some (.sh (.lst [.bl (m true), .bl (m false)])))) = some (.bl (m true)) := mix_ev (ds := [.bl (m true), .bl (m false)]) (k := 0) rfl rfl rfl
      have b1 : m2 leD (mix (bvar 0) (mvar 4)) (m2 subD (mix (bvar 0) (mix (bvar 7) (m1 negD (mc (.int 1))))) (mvar 1)) (envF row s t (some (.sh (.int (j : Int)))) o5 o6 f left m (some (.sh (.lst [.bl (m true), .bl (m false)])))) = some (.bl (decide (far s false (xr row (lastN f)) (xr row j)))) := by
        refine (m2_at2 a1 ((m2_at2 a2 (b := .int s) rfl).trans rfl)).trans ?_
        show some (D.bl (decide (xr row j ≤ xr row (lastN f) - s))) = _
        congr 2
        apply decide_eq_decide.mpr
        show _ ↔ s ≤ xr row (lastN f) - xr row j
        omega
      have b2 : m2 geD (mix (bvar 0) (mvar 4)) (m2 addD (mix (bvar 0) (mix (bvar 7) (m1 negD (mc (.int 1))))) (mvar 1)) (envF row s t (some (.sh (.int (j : Int)))) o5 o6 f left m (some (.sh (.lst [.bl (m true), .bl (m false)])))) = some (.bl (decide (far s true (xr row (lastN f)) (xr row j)))) := by
        refine (m2_at2 a1 ((m2_at2 a2 (b := .int s) rfl).trans rfl)).trans ?_
        show some (D.bl (decide (xr row (lastN f) + s ≤ xr row j))) = _
        congr 2
        apply decide_eq_decide.mpr
        show _ ↔ s ≤ xr row j - xr row (lastN f)
        omega
      have hemp : f.isEmpty = false := by
        cases f with
        | nil => exact absurd rfl hc
        | cons a f => rfl
      have gt : g true = (m false && decide (far s false (xr row (lastN f)) (xr row j))) := by show (m (!true) && (f.isEmpty || decide (far s (!true) _ _))) = _; rw [hemp]; rfl
      have gf : g false = (m true && decide (far s true (xr row (lastN f)) (xr row j))) := by show (m (!false) && (f.isEmpty || decide (far s (!false) _ _))) = _; rw [hemp]; rfl
      rw [gt, gf]
      exact (mset_ev (mlst_ev (sized_ev (acons_ev (mand_bl a3 b1) (acons_ev (mand_bl a4 b2) anil_ev)) i2))).trans rfl
  refine seqI (ρ' := envF row s t (some (.sh (.int (j : Int)))) o5 o6 f left m (some (.sh (.lst [.bl (hereB s (xr row) t f left m j true), .bl (hereB s (xr row) t f left m j false)])))) ?_ ?_
  · have a1 : mix (bvar 10) (mc (.int 0)) (envF row s t (some (.sh (.int (j : Int)))) o5 o6 f left m (some (.sh (.lst [.bl (g true), .bl (g false)])))) = some (.bl (g true)) := mix_ev (ds := [.bl (g true), .bl (g false)]) (k := 0) rfl rfl rfl
    have a2 : mix (bvar 10) (mc (.int 1)) (envF row s t (some (.sh (.int (j : Int)))) o5 o6 f left m (some (.sh (.lst [.bl (g true), .bl (g false)])))) = some (.bl (g false)) := mix_ev (ds := [.bl (g true), .bl (g false)]) (k := 1) rfl rfl rfl
    have b1 : m2 eqSD (mix (bvar 2) (mvar 4)) (mvar 8) (envF row s t (some (.sh (.int (j : Int)))) o5 o6 f left m (some (.sh (.lst [.bl (g true), .bl (g false)])))) = some (.bl (decide (t true j = left))) :=
      (m2_at2 (b := .int (left : Int)) (mix_ev (ds := ((List.range row.length).map (t true)).map dN) (k := (j : Int)) rfl rfl (at_ft (t true) row.length j hj)) rfl).trans (eq_nat _ _)
    have b2 : m2 eqSD (mix (bvar 3) (mvar 4)) (mvar 8) (envF row s t (some (.sh (.int (j : Int)))) o5 o6 f left m (some (.sh (.lst [.bl (g true), .bl (g false)])))) = some (.bl (decide (t false j = left))) :=
      (m2_at2 (b := .int (left : Int)) (mix_ev (ds := ((List.range row.length).map (t false)).map dN) (k := (j : Int)) rfl rfl (at_ft (t false) row.length j hj)) rfl).trans (eq_nat _ _)
    exact (mset_ev (mlst_ev (sized_ev (acons_ev (mand_bl a1 b1) (acons_ev (mand_bl a2 b2) anil_ev)) i2))).trans rfl
  have c1 : mtest (m2 gtD (mvar 8) (mc (.int 0))) (envF row s t (some (.sh (.int (j : Int)))) o5 o6 f left m (some (.sh (.lst [.bl (hereB s (xr row) t f left m j true), .bl (hereB s (xr row) t f left m j false)])))) = some (decide (0 < left)) := by
    refine mtest_bl ((m2_at2 (a := .int (left : Int)) (b := .int 0) rfl rfl).trans ?_)
    show some (D.bl (decide ((0 : Int) < (left : Int)))) = _
    congr 2
    apply decide_eq_decide.mpr
    omega
  have c2 : mtest (m2 (inD false) (mc (.bl true)) (mvar 10)) (envF row s t (some (.sh (.int (j : Int)))) o5 o6 f left m (some (.sh (.lst [.bl (hereB s (xr row) t f left m j true), .bl (hereB s (xr row) t f left m j false)])))) = some (hereB s (xr row) t f left m j true || hereB s (xr row) t f left m j false) :=
    mtest_bl ((m2_at2 (a := .bl true) rfl rfl).trans (in_two _ _))
  by_cases h : 0 < left ∧ (hereB s (xr row) t f left m j true || hereB s (xr row) t f left m j false) = true
  · rw [if_pos h]
    unfold mif
    rw [cand_ev c1 c2, decide_eq_true h.1, h.2]
    show mseq _ _ _ = _
    refine seqI (ρ' := envF row s t (some (.sh (.int (j : Int)))) o5 o6 (f ++ [j]) left m (some (.sh (.lst [.bl (hereB s (xr row) t f left m j true), .bl (hereB s (xr row) t f left m j false)])))) ?_ ?_
    · unfold mapp
      show (if (f.map dN).length < sizeLine then _ else none) = _
      rw [if_pos (by rw [List.length_map]; omega)]
      unfold envF
      rw [List.map_append]; rfl
    refine seqI (ρ' := envF row s t (some (.sh (.int (j : Int)))) o5 o6 (f ++ [j]) left (hereB s (xr row) t f left m j) (some (.sh (.lst [.bl (hereB s (xr row) t f left m j true), .bl (hereB s (xr row) t f left m j false)])))) ((mset_ev (d := .lst [.bl (hereB s (xr row) t f left m j true), .bl (hereB s (xr row) t f left m j false)]) rfl).trans rfl) ?_
    have e : m2 subD (mvar 8) (mc (.int 1)) (envF row s t (some (.sh (.int (j : Int)))) o5 o6 (f ++ [j]) left (hereB s (xr row) t f left m j) (some (.sh (.lst [.bl (hereB s (xr row) t f left m j true), .bl (hereB s (xr row) t f left m j false)])))) = some (.int ((left - 1 : Nat) : Int)) := by
      refine (m2_at2 (a := .int (left : Int)) (b := .int 1) rfl rfl).trans ?_
      show some (D.int ((left : Int) - 1)) = _
      congr 2; omega
    exact (mset_ev e).trans rfl
  · rw [if_neg h]
    unfold mif
    rw [cand_ev c1 c2]
    have : (decide (0 < left) && (hereB s (xr row) t f left m j true || hereB s (xr row) t f left m j false)) = false := by
      rw [← Bool.not_eq_true, Bool.and_eq_true, decide_eq_true_eq]
      exact h
    rw [this]; rfl
end Lw

set_option Elab.async false
set_option linter.all false
set_option maxRecDepth 100000
set_option maxHeartbeats 4000000
namespace Lw
open PySem L2
theorem msetF_ev {i : Nat} {x : ML} {ρ : Ro} {ds : List D} (h : x ρ = some ds) : msetF i x ρ = some (.nx (ρ.set i (some (.own ds)))) := by unfold msetF; rw [h]; rfl
theorem rev_ev {i : Nat} {ρ : Ro} {ns : List Nat} (h : bvar i ρ = some (ns.map dN)) : mrev (bvar i) (osome (m1 negD (mc (.int 1)))) ρ = some (ns.reverse.map dN) := by
  unfold mrev
  rw [h, List.map_reverse]; rfl
theorem most_ev (n : Nat) (t : Bool → Nat → Nat) (hn : n ≤ 300) (L0 : Nat) (h1 : ∀ d p, p < n → t d p ≤ L0) (h2 : L0 = 0 ∨ ∃ d p, p < n ∧ t d p = L0) (ρ : Ro) (hu : bvar 2 ρ = some (((List.range n).map (t true)).map dN)) (hd : bvar 3 ρ = some (((List.range n).map (t false)).map dN)) :
    mmaxL (mcat (mcat (sized (acons (mc (.int 0)) anil)) (bvar 2)) (bvar 3)) ρ = some (.int (L0 : Int)) := by
  have big := size_big
  have c1 := mcat_ev (sized_ev (m := acons (mc (.int 0)) anil) (ρ := ρ) (acons_ev (d := .int 0) rfl anil_ev) (le_size (by simp))) hu (by simp; omega)
  have c2 := mcat_ev c1 hd (by simp; omega)
  have c3 := mmaxL_ev (m := mcat (mcat (sized (acons (mc (.int 0)) anil)) (bvar 2)) (bvar 3)) (ρ := ρ) (x := 0) (r := ((List.range n).map (t true) ++ (List.range n).map (t false)).map fun (k : Nat) => (k : Int)) (by rw [c2, dns, dns, List.map_append, List.map_cons, List.map_append]; rfl)
  rw [c3]
  obtain ⟨v, e, g1, g2⟩ := max_nat ((List.range n).map (t true) ++ (List.range n).map (t false))
  rw [e]
  have mem : ∀ d p, p < n → t d p ∈ (List.range n).map (t true) ++ (List.range n).map (t false) := fun d p hp => by
    cases d
    · exact List.mem_append_right _ (List.mem_map.mpr ⟨p, List.mem_range.mpr hp, rfl⟩)
    · exact List.mem_append_left _ (List.mem_map.mpr ⟨p, List.mem_range.mpr hp, rfl⟩)
  have up : v ≤ L0 := by
    rcases g2 with z | z
    · omega
    · rcases List.mem_append.mp z with z | z
      · obtain ⟨p, hp, ep⟩ := List.mem_map.mp z
        rw [← ep]; exact h1 true p (List.mem_range.mp hp)
      · obtain ⟨p, hp, ep⟩ := List.mem_map.mp z
        rw [← ep]; exact h1 false p (List.mem_range.mp hp)
  have lo : L0 ≤ v := by
    rcases h2 with z | ⟨d, p, hp, z⟩
    · omega
    · rw [← z]; exact g1 _ (mem d p hp)
  rw [show v = L0 by omega]
theorem due_eq (row : List Int) (s : Int) (hs : 1 ≤ s) (hr : row.length ≤ 300) {l : List Nat} (hl : Best (Wv (xr row) row.length s) l) : m_law_due [.lst (row.map .int), .int s] = some (.fr (l.map dN)) := by
  obtain ⟨U, V, _, hU, hV, hd⟩ := tails_eq row s hr
  have ht := tl_of hd
  generalize tl U V = t at ht
  obtain ⟨m1', m2'⟩ := tl_most ht hl
  have big := size_big
  have i0 : 0 ≤ sizeLine := Nat.zero_le _
  have i2 : 2 ≤ sizeLine := le_size (by decide)
  have ll : l.length ≤ 300 := by
    rcases m2' with z | ⟨d, p, hp, z⟩
    · omega
    · obtain ⟨⟨m, a, b⟩, _⟩ := ht d p hp
      have := a.len
      rw [← z, ← b, List.length_cons]; omega
  unfold m_law_due b_law_due
  suffices h : Run _ (startS 11 [.lst (row.map .int), .int s]) (fun o => o = .rf (l.map dN)) by
    obtain ⟨o, e, rfl⟩ := h
    exact runB_rf e
  refine run_seq (ρ' := [some (.sh (.lst (row.map .int))), some (.sh (.int s)), some (.own []), none, none, none, none, none, none, none, none]) ((msetF_ev (sized_ev anil_ev i0)).trans rfl) ?_
  refine run_seq (ρ' := envD row s (RT (t true) row.length 0) (RT (t false) row.length 0) none none none) ((msetF_ev (sized_ev anil_ev i0)).trans rfl) ?_
  refine run_mseq (run_forN row.length (f := fun (j : Nat) => D.int ((row.length : Int) - 1 - (j : Int))) ?_
    (I := fun k ρ => ∃ o4 o5 o6, ρ = envD row s (RT (t true) row.length k) (RT (t false) row.length k) o4 o5 o6) _ ⟨_, _, _, rfl⟩ ?_ ?_)
  · have e1 : m2 subD (mlen (bvar 0)) (mc (.int 1)) (envD row s (RT (t true) row.length 0) (RT (t false) row.length 0) none none none) = some (.int ((row.length : Int) - 1)) := by
      refine (m2_at2 (a := .int (row.length : Int)) (b := .int 1) ?_ rfl).trans rfl
      rw [mlen_ev (show bvar 0 _ = some (row.map .int) from rfl), List.length_map]
    have e2 : m1 negD (mc (.int 1)) (envD row s (RT (t true) row.length 0) (RT (t false) row.length 0) none none none) = some (.int (-1)) := rfl
    unfold mlist
    rw [acons_ev e1 (acons_ev e2 (acons_ev e2 anil_ev)), Option.bind_some]
    show (if -1 ≤ (row.length : Int) - 1 ∧ (row.length : Int) - 1 < 2 ^ 61 ∧ (-1 : Int) = -1 ∧ (-1 : Int) = -1 then some (downD ((row.length : Int) - 1 + 1).toNat) else none) = _
    rw [if_pos ⟨by omega, by omega, rfl, rfl⟩, show ((row.length : Int) - 1 + 1).toNat = row.length by omega]
    rfl
  · rintro k ρ hk ⟨o4, o5, o6, rfl⟩
    refine ⟨envD row s (RT (t true) row.length k) (RT (t false) row.length k) (some (.sh (.int ((row.length - 1 - k : Nat) : Int)))) o5 o6, ?_, ?_⟩
    · rw [show (row.length : Int) - 1 - (k : Int) = ((row.length - 1 - k : Nat) : Int) by omega]; rfl
    · obtain ⟨p5, p6, e⟩ := due_fill row s hr ht k hk o5 o6
      exact ⟨_, e, _, _, _, rfl⟩
  rintro ρ ⟨o4, o5, o6, rfl⟩
  show Run b_law_due_r2 _ _
  unfold b_law_due_r2
  refine run_freeze (ds := (RT (t true) row.length row.length).map dN) rfl (run_freeze (ds := (RT (t false) row.length row.length).map dN) rfl ?_)
  refine run_seq (ρ' := [some (.sh (.lst (row.map .int))), some (.sh (.int s)), some (.own (((List.range row.length).map (t true)).map dN)), some (.sh (.lst ((RT (t false) row.length row.length).map dN))), o4, o5, o6, none, none, none, none]) ((msetF_ev (rev_ev (ns := RT (t true) row.length row.length) rfl)).trans (by rw [rt_rev]; rfl)) ?_
  refine run_seq (ρ' := [some (.sh (.lst (row.map .int))), some (.sh (.int s)), some (.own (((List.range row.length).map (t true)).map dN)), some (.own (((List.range row.length).map (t false)).map dN)), o4, o5, o6, none, none, none, none]) ((msetF_ev (rev_ev (ns := RT (t false) row.length row.length) rfl)).trans (by rw [rt_rev]; rfl)) ?_
  refine run_seq (ρ' := [some (.sh (.lst (row.map .int))), some (.sh (.int s)), some (.own (((List.range row.length).map (t true)).map dN)), some (.own (((List.range row.length).map (t false)).map dN)), o4, o5, o6, some (.own []), none, none, none]) ((msetF_ev (sized_ev anil_ev i0)).trans rfl) ?_
  refine run_seq (ρ' := [some (.sh (.lst (row.map .int))), some (.sh (.int s)), some (.own (((List.range row.length).map (t true)).map dN)), some (.own (((List.range row.length).map (t false)).map dN)), o4, o5, o6, some (.own []), some (.sh (.int (l.length : Int))), none, none]) ((mset_ev (most_ev row.length t hr l.length m1' m2' _ rfl rfl)).trans rfl) ?_
  refine run_seq (ρ' := envF row s t o4 o5 o6 [] l.length (fun _ => true) none) ((mset_ev (mlst_ev (sized_ev (acons_ev (d := .bl true) rfl (acons_ev (d := .bl true) rfl anil_ev)) i2))).trans rfl) ?_
  have k1 : okR (row.length : Int) = true := okR_of (by omega) (by omega)
  refine run_mseq (run_forN row.length (f := fun (j : Nat) => D.int (j : Int)) ?_
    (I := fun j ρ => ∃ o4 f left m o10, PInv (xr row) row.length s l j f left m ∧ (f = [] → m = fun _ => true) ∧ f.length ≤ l.length ∧ ρ = envF row s t o4 o5 o6 f left m o10) _ ⟨_, _, _, _, _, pick_start hl, fun _ => rfl, Nat.zero_le _, rfl⟩ ?_ ?_)
  · unfold mlist
    rw [acons_ev (mlen_ev (show bvar 0 (envF row s t o4 o5 o6 [] l.length (fun _ => true) none) = some (row.map .int) from rfl)) anil_ev, Option.bind_some, List.length_map, rng1_ok k1, Int.toNat_natCast, rangeD_li, List.map_map]; rfl
  · rintro j ρ hj ⟨p4, f, left, m, o10, I, hm, hfl, rfl⟩
    refine ⟨envF row s t (some (.sh (.int (j : Int)))) o5 o6 f left m o10, rfl, ?_⟩
    obtain ⟨q10, e⟩ := pick_run row s hr t j hj o5 o6 o10 f left m (by omega) I.lt hm
    rcases pick_step hs ht hl hj I with ⟨a, b, c⟩ | ⟨a, b⟩
    · rw [if_pos ⟨a, b⟩] at e
      refine ⟨_, e, _, _, _, _, _, c, fun z => ?_, ?_, rfl⟩
      · simp at z
      · obtain ⟨r, er, _⟩ := c.ex
        rw [er, List.length_append (as := f ++ [j])]; omega
    · rw [if_neg (fun z => by rw [a z.1] at z; cases z.2)] at e
      exact ⟨_, e, _, _, _, _, _, b, hm, hfl, rfl⟩
  · rintro ρ ⟨p4, f, left, m, o10, I, hm, hfl, rfl⟩
    have := pick_end hl I
    subst this
    exact run_retO (ds := f.map dN) rfl rfl
end Lw

set_option Elab.async false
set_option linter.all false
set_option maxRecDepth 100000
set_option maxHeartbeats 4000000
namespace Lw
open PySem L2
local macro_rules | `(tactic| simp_arith [$ls,*]) => `(tactic| simp (config := {decide := true, implicitDefEqProofs := false}) only [runB, startS, List.map_cons, List.map_nil, List.length_cons, List.length_nil, List.replicate, List.cons_append, List.nil_append, mvar, bvar, mc, mlst, aslst, m2, mtest, subD, mulD, fdivD, modD, powD, shlD, shrD, andD, ltD, leD, gtD, geD, eqSD, neSD, eqS_ii, eqS_bb, eqS_ss, eqS_nn, eqS_nb, eqS_bn, eqS_ni, eqS_in, m1, negD, notD, mand, mor, mtru, truD, cand, cor, cnot, mite, anil, acons, sized, mtup, mlen, mix, onone, osome, mcut, mcat, addD, call1, lenF, absF, max2F, min2F, two2, intF, mnext, mseq, mif, mnever, mbreak, mcont, mset, msetF, maug, mexpr, mret, mretF, mretO, mretN, mapp, msetix, mfreeze, masg, mmeth, mmeth0, strM, mcutS, strF, intTF, joinF, startsF, remPF, splitF, addSD, mlist, zip2, zip3, enum1, cyes, mcall, mcallF, meqB, misi, mrev, msetix2, tyD, int2, bl2, tgD, setAll, Option.bind_some, Option.map_some, Option.bind_none, Option.map_none, List.getElem?_cons_zero, List.getElem?_cons_succ, List.set_cons_zero, List.set_cons_succ, List.isEmpty_cons, List.isEmpty_nil, Bool.not_true, Bool.not_false, $ls,*])
theorem same1_int (a : Int) : m_law_same_v1 [.int a, .int a] = some (.sh (.bl true)) := by
  unfold m_law_same_v1 b_law_same_v1
  refine runB_rt ?_
  ((apply seqI; focus (simp_arith [ks_is]; rfl)))
  ((apply seqI; focus (simp_arith [misi2, k2_i]; rfl)))
  simp_arith [ks_ii, ks_ib, beq_self_eq_true]
theorem msetN_ev {j i : Nat} {mf : MG} {m : ML} {ρ : Ro} {r0 ds gs : List D} (h0 : ρ[i]? = some (some (.own r0))) (h1 : m ρ = some ds) (h2 : ∀ p, mf p r0 ds = some (.sh (.lst gs), r0)) (n1 : numsD r0 = true) (n2 : numsD ds = true) (n3 : numsD gs = true) : msetN j i mf m ρ = some (.nx (ρ.set j (some (.own gs)))) := by
  unfold msetN
  rw [h0]; simp only
  rw [h1]; simp only
  rw [anyP_of h2]; simp only
  rw [if_pos ⟨True.intro, n1, n2, n3⟩]
theorem nums_dn (l : List Nat) : numsD (l.map dN) = true := by rw [dns]; exact nums_map _
def envL (scr : D) (c : Int) (row : List Int) (s : Int) (l : List Nat) (o6 o7 : Option S) : Ro := [some (.sh scr), some (.sh (.int c)), some (.sh (.lst (row.map .int))), some (.sh (.int s)), some (.sh (.lst (l.map dN))), some (.own (row.map .int)), o6, o7]
theorem turn_ok (scr : D) (c : Int) (row : List Int) (s : Int) (hs : 1 ≤ s) (hr : row.length ≤ 300) {l : List Nat} (hl : Best (Wv (xr row) row.length s) l) (ll : l.length ≤ 300) (o6 o7 : Option S) : ∃ o7', b_law_f0 (envL scr c row s l o6 o7) = some (.nx (envL scr c row s l o6 o7')) := by
  have big := size_big
  obtain ⟨l', e1, h1⟩ := longest_eq row s hs hr
  have : l' = l := h1.unique hl
  subst this
  have e2 := how_long_eq row s l' e1
  have e3 : m_law_same_v1 [.lst (l'.map dN), .lst (l'.map dN)] = some (.sh (.bl true)) := by
    rw [dns]; exact same1_lst _ (by simp; omega)
  refine ⟨some (.own ((l' ++ [0]).map dN)), ?_⟩
  unfold b_law_f0
  refine seqI (ρ' := envL scr c row s l' o6 (some (.own (l'.map dN)))) ((msetN_ev (r0 := row.map .int) (ds := [.int s]) rfl (acons_ev (d := .int s) rfl anil_ev) (longest_new row s hs hr hl) (nums_map row) rfl (nums_dn l')).trans rfl) ?_
  refine seqI (ρ' := envL scr c row s l' o6 (some (.own (l'.map dN)))) (mif_false (cor_ev (a := false) (b := false) ?_ (cor_ev (a := false) (b := false) ?_ ?_))) ?_
  · exact cnot_ev (b := true) (mtru_bl (mborT_ev (ds := l'.map dN) rfl (mcall_sh (acons_ev (d := .lst (l'.map dN)) rfl (acons_ev (d := .lst (l'.map dN)) rfl anil_ev)) e3) rfl))
  · have a1 : mborT 5 (mcall m_how_long (acons (mvar 5) (acons (mvar 3) anil))) (envL scr c row s l' o6 (some (.own (l'.map dN)))) = some (.int (l'.length : Int)) := mborT_ev (ds := row.map .int) rfl (mcall_sh (acons_ev (d := .lst (row.map .int)) rfl (acons_ev (d := .int s) rfl anil_ev)) e2) rfl
    have a2 : mlen (bvar 4) (envL scr c row s l' o6 (some (.own (l'.map dN)))) = some (.int (l'.length : Int)) := by rw [mlen_ev (show bvar 4 _ = some (l'.map dN) from rfl), List.length_map]
    exact cnot_ev (b := true) (mtru_bl (mcall_sh (acons_ev a1 (acons_ev a2 anil_ev)) (same1_int _)))
  · refine mtest_bl ?_
    unfold meqB
    rw [show bvar 5 (envL scr c row s l' o6 (some (.own (l'.map dN)))) = some (row.map .int) from rfl, show bvar 2 (envL scr c row s l' o6 (some (.own (l'.map dN)))) = some (row.map .int) from rfl, Option.bind_some, Option.bind_some]
    unfold eqFD
    rw [eqF_li 6]; rfl
  · unfold mapp
    show (if (l'.map dN).length < sizeLine then _ else none) = _
    rw [if_pos (by rw [List.length_map]; omega)]
    unfold envL
    rw [List.map_append]; rfl
theorem cell_ok (scr : D) (c : Int) (o2 o3 o4 o5 o6 o7 : Option S) (Q : Out → Prop) (hQ : ∀ o1 o2 o3 o4 o5 o6 o7, Q (.nx [some (.sh scr), o1, o2, o3, o4, o5, o6, o7])) :
    Run b_law_f1 [some (.sh scr), some (.sh (.int c)), o2, o3, o4, o5, o6, o7] Q := by
  have big := size_big
  obtain ⟨row, hr, er⟩ := row_eq c 300 (by omega)
  obtain ⟨s, hs, es⟩ := step_eq c
  obtain ⟨l, e1, hl⟩ := longest_eq row s hs hr
  have ed := due_eq row s hs hr hl
  have ll : l.length ≤ 300 := by
    rcases hl.1 with z | ⟨d, z⟩
    · rw [z]; simp
    · cases l with
      | nil => simp
      | cons p m => have := z.len; simp; omega
  unfold b_law_f1
  refine run_seq (ρ' := [some (.sh scr), some (.sh (.int c)), some (.sh (.lst (row.map .int))), o3, o4, o5, o6, o7]) ((mset_ev (mcall_fr (acons_ev (d := .int c) rfl (acons_ev (d := .int 300) rfl anil_ev)) er)).trans rfl) ?_
  refine run_seq (ρ' := [some (.sh scr), some (.sh (.int c)), some (.sh (.lst (row.map .int))), some (.sh (.int s)), o4, o5, o6, o7]) ((mset_ev (mcall_sh (acons_ev (d := .int c) rfl anil_ev) es)).trans rfl) ?_
  refine run_seq (ρ' := [some (.sh scr), some (.sh (.int c)), some (.sh (.lst (row.map .int))), some (.sh (.int s)), some (.sh (.lst (l.map dN))), o5, o6, o7]) ((mset_ev (mcall_fr (acons_ev (d := .lst (row.map .int)) rfl (acons_ev (d := .int s) rfl anil_ev)) ed)).trans rfl) ?_
  refine run_seq (ρ' := envL scr c row s l o6 o7) ((msetF_ev (ds := row.map .int) rfl).trans rfl) ?_
  have k1 : okR (2 : Int) = true := okR_of (by omega) (by omega)
  refine run_forN 2 (f := fun (j : Nat) => D.int (j : Int)) ?_ (I := fun _ ρ => ∃ o6 o7, ρ = envL scr c row s l o6 o7) _ ⟨_, _, rfl⟩ ?_ ?_
  · unfold mlist
    rw [acons_ev (d := .int 2) rfl anil_ev, Option.bind_some, rng1_ok k1, rangeD_li, List.map_map]; rfl
  · rintro j ρ hj ⟨p6, p7, rfl⟩
    refine ⟨envL scr c row s l (some (.sh (.int (j : Int)))) p7, rfl, ?_⟩
    obtain ⟨q7, e⟩ := turn_ok scr c row s hs hr hl ll (some (.sh (.int (j : Int)))) p7
    exact ⟨_, e, _, _, rfl⟩
  · rintro ρ ⟨p6, p7, rfl⟩
    exact hQ _ _ _ _ _ _ _
theorem law_true (ns : List Int) (hn : ns.length ≤ 63) : m_law [.lst (ns.map .int)] = some (.sh (.bl true)) := by
  obtain ⟨cs, ec⟩ := cells_eq ns 2 hn
  unfold m_law b_law
  refine runB_run ?_
  have e : aslst (mcall m_law_cells (acons (mvar 0) (acons (mc (.int 2)) anil))) (startS 8 [.lst (ns.map .int)]) = some (cs.map .int) := aslst_ev (mcall_fr (acons_ev (d := .lst (ns.map .int)) rfl (acons_ev (d := .int 2) rfl anil_ev)) ec)
  refine run_mseq (run_for cs (f := D.int) e (I := fun _ ρ => ∃ o1 o2 o3 o4 o5 o6 o7, ρ = [some (.sh (.lst (ns.map .int))), o1, o2, o3, o4, o5, o6, o7]) _ ⟨_, _, _, _, _, _, _, rfl⟩ ?_ ?_)
  · rintro c cs ρ ⟨o1, o2, o3, o4, o5, o6, o7, rfl⟩
    exact ⟨_, rfl, cell_ok _ c o2 o3 o4 o5 o6 o7 _ fun p1 p2 p3 p4 p5 p6 p7 => ⟨p1, p2, p3, p4, p5, p6, p7, rfl⟩⟩
  · rintro ρ ⟨o1, o2, o3, o4, o5, o6, o7, rfl⟩
    exact ⟨.rt (.bl true), rfl, rfl⟩
end Lw

set_option Elab.async false
set_option linter.all false
set_option maxRecDepth 100000
set_option maxHeartbeats 4000000
namespace Lw
open PySem L2
open PyProof.Rows
def top (i : Nat) : Stmt := PySem.Challenge.pw_wavyrow_k07_longest_told.main.body.getD i (.Pass ⟨0, 0, 0, 0⟩)
abbrev s_refuse_step : Stmt := top 4
abbrev N_refuse_step : List Str := ["step"]
theorem sc_refuse_step : FnScope N_refuse_step ["step"] (defScope s_refuse_step) := ⟨rfl, rfl, rfl, by decide +kernel, rfl, by decide +kernel, by decide +kernel⟩
theorem ok_refuse_step {P : Program} {w : World} {K : PySem.W.Frag} {mg : Str → Option Value} {base : Heap} {f : Addr} {fd : FuncData} (Fn : Fun K "refuse_step" "refuse_step" s_refuse_step f fd) : FnOk P w K mg base CX0 1 f fd ["step"] (spR K 1 m_refuse_step) :=
  Fn.okD (k := 0) (m := b_refuse_step) sc_refuse_step fun cdv A outer s H E hr => (pssd_one (psd_if (pc_cmp op_lt opd_lt (pd_var 0 (pv 0)) pd_int (nomark _)) (pssd_one psd_never) pssd_nil))
abbrev s_tails : Stmt := top 6
abbrev N_tails : List Str := ["row", "step", "ups", "downs", "place", "later", "rise"]
theorem sc_tails : FnScope N_tails ["row", "step"] (defScope s_tails) := ⟨rfl, rfl, rfl, by decide +kernel, rfl, by decide +kernel, by decide +kernel⟩
theorem nd_tails_0 : List.Nodup (["place"] : List Str) := by decide +kernel
theorem nd_tails_1 : List.Nodup (["place"] : List Str) := by decide +kernel
theorem ok_tails {P : Program} {w : World} {K : PySem.W.Frag} {mg : Str → Option Value} {base : Heap} {f : Addr} {fd : FuncData} (Fn : Fun K "tails" "tails" s_tails f fd) (z_len : mg "len" = none) (z_range : mg "range" = none) (z_reversed : mg "reversed" = none) : FnOk P w K mg base CX0 1 f fd ["row", "step"] (spR K 2 m_tails) :=
  Fn.okD (k := 0) (m := b_tails) sc_tails fun cdv A outer s H E hr => (pssd_cons (psd_setC (ps_setC (i := 2) sc_tails.nd rfl (by first | exact Or.inl rfl | exact Or.inr rfl) (blk_of (N := ["place"]) (src := [none]) (defScope s_tails) N_tails rfl rfl (by decide +kernel)) rfl (pid_range1 rfl z_range (pas_cons (pd_lenB rfl z_len (pb_var 0 (pv 0))) pas_nil)) (fun C fp s0 H0 => (pgd_name (i := 0) (pg_name nd_tails_0 rfl (by first | exact Or.inl rfl | exact Or.inr rfl)))) (fun C fp s0 H0 => ptsd_nil) (fun C fp s0 H0 => (pf_pd (pf_lst (pas_cons (pd_var 0 (pv 0)) pas_nil)))))) (pssd_cons (psd_setC (ps_setC (i := 3) sc_tails.nd rfl (by first | exact Or.inl rfl | exact Or.inr rfl) (blk_of (N := ["place"]) (src := [none]) (defScope s_tails) N_tails rfl rfl (by decide +kernel)) rfl (pid_range1 rfl z_range (pas_cons (pd_lenB rfl z_len (pb_var 0 (pv 0))) pas_nil)) (fun C fp s0 H0 => (pgd_name (i := 0) (pg_name nd_tails_1 rfl (by first | exact Or.inl rfl | exact Or.inr rfl)))) (fun C fp s0 H0 => ptsd_nil) (fun C fp s0 H0 => (pf_pd (pf_lst (pas_cons (pd_var 0 (pv 0)) pas_nil)))))) (pssd_cons (psd_for PassesOwn.never rfl (pid_revR1 rfl z_reversed rfl z_range (pas_cons (pd_lenB rfl z_len (pb_var 0 (pv 0))) pas_nil)) (pgd_name (i := 4) (pg_name sc_tails.nd rfl (by first | exact Or.inl rfl | exact Or.inr rfl))) (pssd_one (psd_for PassesOwn.never rfl (pid_range2 rfl z_range (pas_cons (pd_add (pd_var 4 (pv 4)) pd_int) (pas_cons (pd_lenB rfl z_len (pb_var 0 (pv 0))) pas_nil))) (pgd_name (i := 5) (pg_name sc_tails.nd rfl (by first | exact Or.inl rfl | exact Or.inr rfl))) (pssd_cons (psd_set (i := 6) sc_tails.nd rfl (by first | exact Or.inl rfl | exact Or.inr rfl) (pd_sub (pd_ix (pb_var 0 (pv 0)) (pd_var 5 (pv 5))) (pd_ix (pb_var 0 (pv 0)) (pd_var 4 (pv 4))))) (pssd_cons (psd_if (pc_w (pcw_and (pc_cmp op_ge opd_ge (pd_var 6 (pv 6)) (pd_var 1 (pv 1)) (nomark _)) (pw1_and (pc_cmp op_ge opd_ge (pd_lenB rfl z_len (pd_pb (pd_ix (pb_var 3 (pv 3)) (pd_var 5 (pv 5))))) (pd_lenB rfl z_len (pd_pb (pd_ix (pb_var 2 (pv 2)) (pd_var 4 (pv 4))))) (nomark _))))) (pssd_one (psd_setix (i := 2) (ps_asg (pf_pd (pf_cat (pf_pb (pf_lst (pas_cons (pd_var 4 (pv 4)) pas_nil))) (pd_pb (pd_ix (pb_var 3 (pv 3)) (pd_var 5 (pv 5)))))) (pg_sub (pv 2) (pd_var 4 (pv 4)) set_list)))) pssd_nil) (pssd_one (psd_if (pc_w (pcw_and (pc_cmp op_ge opd_ge (pd_neg (pd_var 6 (pv 6))) (pd_var 1 (pv 1)) (nomark _)) (pw1_and (pc_cmp op_ge opd_ge (pd_lenB rfl z_len (pd_pb (pd_ix (pb_var 2 (pv 2)) (pd_var 5 (pv 5))))) (pd_lenB rfl z_len (pd_pb (pd_ix (pb_var 3 (pv 3)) (pd_var 4 (pv 4))))) (nomark _))))) (pssd_one (psd_setix (i := 3) (ps_asg (pf_pd (pf_cat (pf_pb (pf_lst (pas_cons (pd_var 4 (pv 4)) pas_nil))) (pd_pb (pd_ix (pb_var 2 (pv 2)) (pd_var 5 (pv 5)))))) (pg_sub (pv 3) (pd_var 4 (pv 4)) set_list)))) pssd_nil))))))) (pssd_freeze 2 (pssd_freeze 3 (pssd_one (psd_ret (pd_tup (pas_cons (pd_var 2 (pv 2)) (pas_cons (pd_var 3 (pv 3)) pas_nil))))))))))
abbrev s_tails_v9 : Stmt := top 6
abbrev N_tails_v9 : List Str := ["row", "step", "ups", "downs", "place", "later", "rise"]
theorem sc_tails_v9 : FnScope N_tails_v9 ["row", "step"] (defScope s_tails_v9) := ⟨rfl, rfl, rfl, by decide +kernel, rfl, by decide +kernel, by decide +kernel⟩
theorem nd_tails_v9_0 : List.Nodup (["place"] : List Str) := by decide +kernel
theorem nd_tails_v9_1 : List.Nodup (["place"] : List Str) := by decide +kernel
theorem ok_tails_v9 {P : Program} {w : World} {K : PySem.W.Frag} {mg : Str → Option Value} {base : Heap} {f : Addr} {fd : FuncData} (Fn : Fun K "tails" "tails" s_tails_v9 f fd) (z_len : mg "len" = none) (z_range : mg "range" = none) (z_reversed : mg "reversed" = none) : FnOk P w K mg base CX0 1 f fd ["row", "step"] (spG K 2 m_tails_v9) :=
  Fn.okGl (k := 0) (m := b_tails_v9) sc_tails_v9 (by decide) fun cdv A outer s H E hr => (pssd_cons (psd_setC (ps_setC (i := 2) sc_tails_v9.nd rfl (by first | exact Or.inl rfl | exact Or.inr rfl) (blk_of (N := ["place"]) (src := [none]) (defScope s_tails_v9) N_tails_v9 rfl rfl (by decide +kernel)) rfl (pid_range1 rfl z_range (pas_cons (pd_lenB rfl z_len (pb_var 0 (pv 0))) pas_nil)) (fun C fp s0 H0 => (pgd_name (i := 0) (pg_name nd_tails_v9_0 rfl (by first | exact Or.inl rfl | exact Or.inr rfl)))) (fun C fp s0 H0 => ptsd_nil) (fun C fp s0 H0 => (pf_pd (pf_lst (pas_cons (pd_var 0 (pv 0)) pas_nil)))))) (pssd_cons (psd_setC (ps_setC (i := 3) sc_tails_v9.nd rfl (by first | exact Or.inl rfl | exact Or.inr rfl) (blk_of (N := ["place"]) (src := [none]) (defScope s_tails_v9) N_tails_v9 rfl rfl (by decide +kernel)) rfl (pid_range1 rfl z_range (pas_cons (pd_lenB rfl z_len (pb_var 0 (pv 0))) pas_nil)) (fun C fp s0 H0 => (pgd_name (i := 0) (pg_name nd_tails_v9_1 rfl (by first | exact Or.inl rfl | exact Or.inr rfl)))) (fun C fp s0 H0 => ptsd_nil) (fun C fp s0 H0 => (pf_pd (pf_lst (pas_cons (pd_var 0 (pv 0)) pas_nil)))))) (pssd_cons (psd_for PassesOwn.never rfl (pid_revR1 rfl z_reversed rfl z_range (pas_cons (pd_lenB rfl z_len (pb_var 0 (pv 0))) pas_nil)) (pgd_name (i := 4) (pg_name sc_tails_v9.nd rfl (by first | exact Or.inl rfl | exact Or.inr rfl))) (pssd_one (psd_for PassesOwn.never rfl (pid_range2 rfl z_range (pas_cons (pd_add (pd_var 4 (pv 4)) pd_int) (pas_cons (pd_lenB rfl z_len (pb_var 0 (pv 0))) pas_nil))) (pgd_name (i := 5) (pg_name sc_tails_v9.nd rfl (by first | exact Or.inl rfl | exact Or.inr rfl))) (pssd_cons (psd_set (i := 6) sc_tails_v9.nd rfl (by first | exact Or.inl rfl | exact Or.inr rfl) (pd_sub (pd_ix (pb_var 0 (pv 0)) (pd_var 5 (pv 5))) (pd_ix (pb_var 0 (pv 0)) (pd_var 4 (pv 4))))) (pssd_cons (psd_if (pc_w (pcw_and (pc_cmp op_ge opd_ge (pd_var 6 (pv 6)) (pd_var 1 (pv 1)) (nomark _)) (pw1_and (pc_cmp op_ge opd_ge (pd_lenB rfl z_len (pd_pb (pd_ix (pb_var 3 (pv 3)) (pd_var 5 (pv 5))))) (pd_lenB rfl z_len (pd_pb (pd_ix (pb_var 2 (pv 2)) (pd_var 4 (pv 4))))) (nomark _))))) (pssd_one (psd_setix (i := 2) (ps_asg (pf_pd (pf_cat (pf_pb (pf_lst (pas_cons (pd_var 4 (pv 4)) pas_nil))) (pd_pb (pd_ix (pb_var 3 (pv 3)) (pd_var 5 (pv 5)))))) (pg_sub (pv 2) (pd_var 4 (pv 4)) set_list)))) pssd_nil) (pssd_one (psd_if (pc_w (pcw_and (pc_cmp op_ge opd_ge (pd_neg (pd_var 6 (pv 6))) (pd_var 1 (pv 1)) (nomark _)) (pw1_and (pc_cmp op_ge opd_ge (pd_lenB rfl z_len (pd_pb (pd_ix (pb_var 2 (pv 2)) (pd_var 5 (pv 5))))) (pd_lenB rfl z_len (pd_pb (pd_ix (pb_var 3 (pv 3)) (pd_var 4 (pv 4))))) (nomark _))))) (pssd_one (psd_setix (i := 3) (ps_asg (pf_pd (pf_cat (pf_pb (pf_lst (pas_cons (pd_var 4 (pv 4)) pas_nil))) (pd_pb (pd_ix (pb_var 2 (pv 2)) (pd_var 5 (pv 5)))))) (pg_sub (pv 3) (pd_var 4 (pv 4)) set_list)))) pssd_nil))))))) (pssd_freeze 2 (pssd_freeze 3 (pssd_one (psd_retG 0 (pdm_pure (pd_tup (pas_cons (pd_var 2 (pv 2)) (pas_cons (pd_var 3 (pv 3)) pas_nil)))))))))))
abbrev s_longer_first : Stmt := top 7
abbrev N_longer_first : List Str := ["places"]
theorem sc_longer_first : FnScope N_longer_first ["places"] (defScope s_longer_first) := ⟨rfl, rfl, rfl, by decide +kernel, rfl, by decide +kernel, by decide +kernel⟩
theorem ok_longer_first {P : Program} {w : World} {K : PySem.W.Frag} {mg : Str → Option Value} {base : Heap} {f : Addr} {fd : FuncData} (Fn : Fun K "longer_first" "longer_first" s_longer_first f fd) (z_len : mg "len" = none) : FnOk P w K mg base CX0 1 f fd ["places"] (spR K 1 m_longer_first) :=
  Fn.okD (k := 0) (m := b_longer_first) sc_longer_first fun cdv A outer s H E hr => (pssd_one (psd_ret (pd_tup (pas_cons (pd_neg (pd_lenB rfl z_len (pb_var 0 (pv 0)))) (pas_cons (pd_var 0 (pv 0)) pas_nil)))))
abbrev s_longest : Stmt := top 8
abbrev N_longest : List Str := ["row", "step", "ups", "downs"]
theorem sc_longest : FnScope N_longest ["row", "step"] (defScope s_longest) := ⟨rfl, rfl, rfl, by decide +kernel, rfl, by decide +kernel, by decide +kernel⟩
theorem ok_longest {P : Program} {w : World} {K : PySem.W.Frag} {mg : Str → Option Value} {base : Heap} {f : Addr} {fd : FuncData} {x_longer_first : Addr} {d_longer_first : FuncData} {x_refuse_step : Addr} {d_refuse_step : FuncData} {x_tails : Addr} {d_tails : FuncData} (Fn : Fun K "longest" "longest" s_longest f fd) (G_longer_first : FnOk P w K mg base CX0 1 x_longer_first d_longer_first ["places"] (spR K 1 m_longer_first)) (b_longer_first : Binds K d_longer_first ["places"] []) (k_longer_first : PySem.W.keepIn K (.ref x_longer_first) = true) (a_longer_first : mg "longer_first" = some (.ref x_longer_first)) (G_refuse_step : FnOk P w K mg base CX0 1 x_refuse_step d_refuse_step ["step"] (spR K 1 m_refuse_step)) (b_refuse_step : Binds K d_refuse_step ["step"] []) (k_refuse_step : PySem.W.keepIn K (.ref x_refuse_step) = true) (a_refuse_step : mg "refuse_step" = some (.ref x_refuse_step)) (G_tails : FnOk P w K mg base CX0 1 x_tails d_tails ["row", "step"] (spR K 2 m_tails)) (b_tails : Binds K d_tails ["row", "step"] []) (k_tails : PySem.W.keepIn K (.ref x_tails) = true) (a_tails : mg "tails" = some (.ref x_tails)) (z_min : mg "min" = none) : FnOk P w K mg base CX0 3 f fd ["row", "step"] (spR K 2 m_longest) :=
  Fn.okD (k := 2) (m := b_longest) sc_longest fun cdv A outer s H E hr => (pssd_cons (psd_expr (pd_call (fun t ha => pe_call (G_refuse_step.mono (by decide)) hr rfl a_refuse_step k_refuse_step b_refuse_step .nil pass0 ha) rfl (pas_cons (pd_var 1 (pv 1)) pas_nil) (acons_len anil_len))) (pssd_cons (psd_asg (ps_asg (pd_call (fun t ha => pe_call (G_tails.mono (by decide)) hr rfl a_tails k_tails b_tails .nil pass0 ha) rfl (pas_cons (pd_var 0 (pv 0)) (pas_cons (pd_var 1 (pv 1)) pas_nil)) (acons_len (acons_len anil_len))) (pgd_tup (is := [2, 3]) (pg_tup rfl (pgs_cons (pg_name (i := 2) sc_longest.nd rfl (by first | exact Or.inl rfl | exact Or.inr rfl)) (pgs_cons (pg_name (i := 3) sc_longest.nd rfl (by first | exact Or.inl rfl | exact Or.inr rfl)) pgs_nil)))))) (pssd_one (psd_ret (pd_minK (keyAt_fn (G_longer_first.mono (by decide)) hr.in1 b_longer_first) rfl hr.units rfl z_min rfl a_longer_first (pd_pb (pd_add (pd_var 2 (pv 2)) (pd_var 3 (pv 3)))) (pf_pd (pf_lst pas_nil)))))))
abbrev s_longest_v9 : Stmt := top 8
abbrev N_longest_v9 : List Str := ["row", "step", "ups", "downs"]
theorem sc_longest_v9 : FnScope N_longest_v9 ["row", "step"] (defScope s_longest_v9) := ⟨rfl, rfl, rfl, by decide +kernel, rfl, by decide +kernel, by decide +kernel⟩
theorem ok_longest_v9 {P : Program} {w : World} {K : PySem.W.Frag} {mg : Str → Option Value} {base : Heap} {f : Addr} {fd : FuncData} {x_longer_first : Addr} {d_longer_first : FuncData} {x_refuse_step : Addr} {d_refuse_step : FuncData} {x_tails_v9 : Addr} {d_tails_v9 : FuncData} (Fn : Fun K "longest" "longest" s_longest_v9 f fd) (G_longer_first : FnOk P w K mg base CX0 1 x_longer_first d_longer_first ["places"] (spR K 1 m_longer_first)) (b_longer_first : Binds K d_longer_first ["places"] []) (k_longer_first : PySem.W.keepIn K (.ref x_longer_first) = true) (a_longer_first : mg "longer_first" = some (.ref x_longer_first)) (G_refuse_step : FnOk P w K mg base CX0 1 x_refuse_step d_refuse_step ["step"] (spR K 1 m_refuse_step)) (b_refuse_step : Binds K d_refuse_step ["step"] []) (k_refuse_step : PySem.W.keepIn K (.ref x_refuse_step) = true) (a_refuse_step : mg "refuse_step" = some (.ref x_refuse_step)) (G_tails_v9 : FnOk P w K mg base CX0 1 x_tails_v9 d_tails_v9 ["row", "step"] (spG K 2 m_tails_v9)) (b_tails_v9 : Binds K d_tails_v9 ["row", "step"] []) (k_tails_v9 : PySem.W.keepIn K (.ref x_tails_v9) = true) (a_tails_v9 : mg "tails" = some (.ref x_tails_v9)) (z_min : mg "min" = none) : FnOk P w K mg base CX0 3 f fd ["row", "step"] (spG K 2 m_longest_v9) :=
  Fn.okGl (k := 2) (m := b_longest_v9) sc_longest_v9 (by decide) fun cdv A outer s H E hr => (pssd_cons (psd_expr (pd_call (fun t ha => pe_call (G_refuse_step.mono (by decide)) hr rfl a_refuse_step k_refuse_step b_refuse_step .nil pass0 ha) rfl (pas_cons (pd_var 1 (pv 1)) pas_nil) (acons_len anil_len))) (pssd_cons (psd_asgm (ps_asg (pdm_callG (i := 0) (fun t ha => pe_call (G_tails_v9.mono (by decide)) hr rfl a_tails_v9 k_tails_v9 b_tails_v9 .nil pass0 ha) rfl (pv 0) (pam_pure (pas_cons (pd_var 1 (pv 1)) pas_nil)) (apu_len (acons_len anil_len))) (pgd_tup (is := [2, 3]) (pg_tup rfl (pgs_cons (pg_name (i := 2) sc_longest_v9.nd rfl (by first | exact Or.inl rfl | exact Or.inr rfl)) (pgs_cons (pg_name (i := 3) sc_longest_v9.nd rfl (by first | exact Or.inl rfl | exact Or.inr rfl)) pgs_nil)))))) (pssd_one (psd_retG 0 (pdm_pure (pd_minK (keyAt_fn (G_longer_first.mono (by decide)) hr.in1 b_longer_first) rfl hr.units rfl z_min rfl a_longer_first (pd_pb (pd_add (pd_var 2 (pv 2)) (pd_var 3 (pv 3)))) (pf_pd (pf_lst pas_nil))))))))
abbrev s_how_long : Stmt := top 9
abbrev N_how_long : List Str := ["row", "step"]
theorem sc_how_long : FnScope N_how_long ["row", "step"] (defScope s_how_long) := ⟨rfl, rfl, rfl, by decide +kernel, rfl, by decide +kernel, by decide +kernel⟩
theorem ok_how_long {P : Program} {w : World} {K : PySem.W.Frag} {mg : Str → Option Value} {base : Heap} {f : Addr} {fd : FuncData} {x_longest : Addr} {d_longest : FuncData} (Fn : Fun K "how_long" "how_long" s_how_long f fd) (G_longest : FnOk P w K mg base CX0 3 x_longest d_longest ["row", "step"] (spR K 2 m_longest)) (b_longest : Binds K d_longest ["row", "step"] []) (k_longest : PySem.W.keepIn K (.ref x_longest) = true) (a_longest : mg "longest" = some (.ref x_longest)) (z_len : mg "len" = none) : FnOk P w K mg base CX0 4 f fd ["row", "step"] (spR K 2 m_how_long) :=
  Fn.okD (k := 3) (m := b_how_long) sc_how_long fun cdv A outer s H E hr => (pssd_one (psd_ret (pd_lenB rfl z_len (pd_pb (pd_call (fun t ha => pe_call (G_longest.mono (by decide)) hr rfl a_longest k_longest b_longest .nil pass0 ha) rfl (pas_cons (pd_var 0 (pv 0)) (pas_cons (pd_var 1 (pv 1)) pas_nil)) (acons_len (acons_len anil_len)))))))
abbrev s_law_stir : Stmt := top 11
abbrev N_law_stir : List Str := ["cell", "k", "number"]
theorem sc_law_stir : FnScope N_law_stir ["cell", "k"] (defScope s_law_stir) := ⟨rfl, rfl, rfl, by decide +kernel, rfl, by decide +kernel, by decide +kernel⟩
theorem ok_law_stir {P : Program} {w : World} {K : PySem.W.Frag} {mg : Str → Option Value} {base : Heap} {f : Addr} {fd : FuncData} (Fn : Fun K "_law_stir" "_law_stir" s_law_stir f fd) : FnOk P w K mg base CX0 1 f fd ["cell", "k"] (spR K 2 m_law_stir) :=
  Fn.okD (k := 0) (m := b_law_stir) sc_law_stir fun cdv A outer s H E hr => (pssd_cons (psd_if (pc_cmp op_ge opd_ge (pd_var 0 (pv 0)) (pd_pow pd_int pd_int) (nomark _)) (pssd_one (psd_ret (pd_mod (pd_shr (pd_sub (pd_var 0 (pv 0)) (pd_pow pd_int pd_int)) (pd_mul pd_int (pd_var 1 (pv 1)))) (pd_pow pd_int pd_int)))) pssd_nil) (pssd_cons (psd_set (i := 2) sc_law_stir.nd rfl (by first | exact Or.inl rfl | exact Or.inr rfl) (pd_mod (pd_mul (pd_add (pd_add (pd_var 0 (pv 0)) (pd_mul pd_int (pd_var 1 (pv 1)))) pd_int) pd_int) pd_int)) (pssd_cons (psd_set (i := 2) sc_law_stir.nd rfl (by first | exact Or.inl rfl | exact Or.inr rfl) (pd_mod (pd_mul (pd_var 2 (pv 2)) (pd_var 2 (pv 2))) pd_int)) (pssd_one (psd_ret (pd_fdiv (pd_mod (pd_mul (pd_var 2 (pv 2)) pd_int) pd_int) pd_int))))))
abbrev s_law_cells : Stmt := top 12
abbrev N_law_cells : List Str := ["script", "many"]
theorem sc_law_cells : FnScope N_law_cells ["script", "many"] (defScope s_law_cells) := ⟨rfl, rfl, rfl, by decide +kernel, rfl, by decide +kernel, by decide +kernel⟩
theorem ok_law_cells {P : Program} {w : World} {K : PySem.W.Frag} {mg : Str → Option Value} {base : Heap} {f : Addr} {fd : FuncData} (Fn : Fun K "_law_cells" "_law_cells" s_law_cells f fd) (z_len : mg "len" = none) (z_max : mg "max" = none) (z_min : mg "min" = none) : FnOk P w K mg base CX0 1 f fd ["script", "many"] (spR K 2 m_law_cells) :=
  Fn.okD (k := 0) (m := b_law_cells) sc_law_cells fun cdv A outer s H E hr => (pssd_one (psd_retF (pf_sl (pf_pb (pf_cat (pf_pb (pf_sl (pb_var 0 (pv 0)) pos_none (pos_some (pd_var 1 (pv 1))))) (pf_pb (pf_lst (pas_cons pd_int pas_nil))))) pos_none (pos_some (pd_max2 rfl rfl z_max (pas_cons pd_int (pas_cons (pd_min2 rfl rfl z_min (pas_cons (pd_var 1 (pv 1)) (pas_cons (pd_lenB rfl z_len (pb_var 0 (pv 0))) pas_nil))) pas_nil)))))))
abbrev s_law_row : Stmt := top 13
abbrev N_law_row : List Str := ["cell", "most", "size", "kind", "wide", "block", "found", "last", "k", "one", "some"]
theorem sc_law_row : FnScope N_law_row ["cell", "most"] (defScope s_law_row) := ⟨rfl, rfl, rfl, by decide +kernel, rfl, by decide +kernel, by decide +kernel⟩
theorem ok_law_row {P : Program} {w : World} {K : PySem.W.Frag} {mg : Str → Option Value} {base : Heap} {f : Addr} {fd : FuncData} {x_law_stir : Addr} {d_law_stir : FuncData} (Fn : Fun K "_law_row" "_law_row" s_law_row f fd) (G_law_stir : FnOk P w K mg base CX0 1 x_law_stir d_law_stir ["cell", "k"] (spR K 2 m_law_stir)) (b_law_stir : Binds K d_law_stir ["cell", "k"] []) (k_law_stir : PySem.W.keepIn K (.ref x_law_stir) = true) (a_law_stir : mg "_law_stir" = some (.ref x_law_stir)) (z_min : mg "min" = none) (z_range : mg "range" = none) : FnOk P w K mg base CX0 2 f fd ["cell", "most"] (spR K 2 m_law_row) :=
  Fn.okD (k := 1) (m := b_law_row) sc_law_row fun cdv A outer s H E hr => (pssd_cons (psd_set (i := 2) sc_law_row.nd rfl (by first | exact Or.inl rfl | exact Or.inr rfl) (pd_mod (pd_call (fun t ha => pe_call (G_law_stir.mono (by decide)) hr rfl a_law_stir k_law_stir b_law_stir .nil pass0 ha) rfl (pas_cons (pd_var 0 (pv 0)) (pas_cons pd_int pas_nil)) (acons_len (acons_len anil_len))) (pd_ix (pf_pb (pf_lst (pas_cons pd_int (pas_cons pd_int (pas_cons pd_int (pas_cons (pd_add (pd_var 1 (pv 1)) pd_int) pas_nil)))))) (pd_mod (pd_call (fun t ha => pe_call (G_law_stir.mono (by decide)) hr rfl a_law_stir k_law_stir b_law_stir .nil pass0 ha) rfl (pas_cons (pd_var 0 (pv 0)) (pas_cons pd_int pas_nil)) (acons_len (acons_len anil_len))) pd_int)))) (pssd_cons (psd_set (i := 3) sc_law_row.nd rfl (by first | exact Or.inl rfl | exact Or.inr rfl) (pd_mod (pd_call (fun t ha => pe_call (G_law_stir.mono (by decide)) hr rfl a_law_stir k_law_stir b_law_stir .nil pass0 ha) rfl (pas_cons (pd_var 0 (pv 0)) (pas_cons pd_int pas_nil)) (acons_len (acons_len anil_len))) pd_int)) (pssd_cons (psd_set (i := 4) sc_law_row.nd rfl (by first | exact Or.inl rfl | exact Or.inr rfl) (pd_ix (pf_pb (pf_lst (pas_cons pd_int (pas_cons pd_int (pas_cons pd_int (pas_cons (pd_pow pd_int pd_int) pas_nil)))))) (pd_mod (pd_call (fun t ha => pe_call (G_law_stir.mono (by decide)) hr rfl a_law_stir k_law_stir b_law_stir .nil pass0 ha) rfl (pas_cons (pd_var 0 (pv 0)) (pas_cons pd_int pas_nil)) (acons_len (acons_len anil_len))) pd_int))) (pssd_cons (psd_set (i := 5) sc_law_row.nd rfl (by first | exact Or.inl rfl | exact Or.inr rfl) (pd_add pd_int (pd_mod (pd_call (fun t ha => pe_call (G_law_stir.mono (by decide)) hr rfl a_law_stir k_law_stir b_law_stir .nil pass0 ha) rfl (pas_cons (pd_var 0 (pv 0)) (pas_cons pd_int pas_nil)) (acons_len (acons_len anil_len))) pd_int))) (pssd_cons (psd_setF (i := 6) sc_law_row.nd rfl (by first | exact Or.inl rfl | exact Or.inr rfl) (pf_lst pas_nil)) (pssd_cons (psd_set (i := 7) sc_law_row.nd rfl (by first | exact Or.inl rfl | exact Or.inr rfl) pd_int) (pssd_cons (psd_for PassesOwn.never rfl (pid_range1 rfl z_range (pas_cons (pd_min2 rfl rfl z_min (pas_cons (pd_var 2 (pv 2)) (pas_cons (pd_var 1 (pv 1)) pas_nil))) pas_nil)) (pgd_name (i := 8) (pg_name sc_law_row.nd rfl (by first | exact Or.inl rfl | exact Or.inr rfl))) (pssd_cons (psd_set (i := 9) sc_law_row.nd rfl (by first | exact Or.inl rfl | exact Or.inr rfl) (pd_mod (pd_call (fun t ha => pe_call (G_law_stir.mono (by decide)) hr rfl a_law_stir k_law_stir b_law_stir .nil pass0 ha) rfl (pas_cons (pd_var 0 (pv 0)) (pas_cons (pd_add pd_int (pd_var 8 (pv 8))) pas_nil)) (acons_len (acons_len anil_len))) (pd_var 4 (pv 4)))) (pssd_cons (psd_set (i := 7) sc_law_row.nd rfl (by first | exact Or.inl rfl | exact Or.inr rfl) (pd_sub (pd_add (pd_var 7 (pv 7)) (pd_var 9 (pv 9))) (pd_fdiv (pd_var 4 (pv 4)) pd_int))) (pssd_cons (psd_set (i := 10) sc_law_row.nd rfl (by first | exact Or.inl rfl | exact Or.inr rfl) (pf_pd (pf_lst (pas_cons (pd_sub (pd_var 9 (pv 9)) (pd_fdiv (pd_var 4 (pv 4)) pd_int)) (pas_cons (pd_add (pd_var 8 (pv 8)) (pd_fdiv (pd_var 9 (pv 9)) pd_int)) (pas_cons (pd_sub (pd_sub pd_int (pd_var 8 (pv 8))) (pd_fdiv (pd_var 9 (pv 9)) pd_int)) (pas_cons (pd_ix (pf_pb (pf_lst (pas_cons (pd_var 9 (pv 9)) (pas_cons (pd_sub pd_int (pd_var 9 (pv 9))) pas_nil)))) (pd_mod (pd_var 8 (pv 8)) pd_int)) pas_nil))))))) (pssd_cons (psd_set (i := 10) sc_law_row.nd rfl (by first | exact Or.inl rfl | exact Or.inr rfl) (pf_pd (pf_cat (pb_var 10 (pv 10)) (pf_pb (pf_lst (pas_cons (pd_add (pd_var 9 (pv 9)) (pd_mul (pd_mod (pd_fdiv (pd_var 8 (pv 8)) (pd_var 5 (pv 5))) pd_int) (pd_var 4 (pv 4)))) (pas_cons (pd_var 4 (pv 4)) (pas_cons (pd_add (pd_mul (pd_sub (pd_var 9 (pv 9)) (pd_fdiv (pd_var 4 (pv 4)) pd_int)) (pd_pow pd_int pd_int)) (pd_mod (pd_call (fun t ha => pe_call (G_law_stir.mono (by decide)) hr rfl a_law_stir k_law_stir b_law_stir .nil pass0 ha) rfl (pas_cons (pd_var 0 (pv 0)) (pas_cons (pd_add pd_int (pd_var 8 (pv 8))) pas_nil)) (acons_len (acons_len anil_len))) pd_int)) pas_nil)))))))) (pssd_one (psd_append (i := 6) (pv 6) (pd_ix (pf_pb (pf_cat (pb_var 10 (pv 10)) (pf_pb (pf_lst (pas_cons (pd_var 7 (pv 7)) pas_nil))))) (pd_var 3 (pv 3))) (fun t ha => pe_bm PySem.F.plainAttrs_list PySem.F.slot_list_append PySem.F.type_list_append mt_append (pv 6) ha) (pas_cons (pd_ix (pf_pb (pf_cat (pb_var 10 (pv 10)) (pf_pb (pf_lst (pas_cons (pd_var 7 (pv 7)) pas_nil))))) (pd_var 3 (pv 3))) pas_nil)))))))) (pssd_one (psd_retO 6 (pv 6))))))))))
abbrev s_law_step : Stmt := top 14
abbrev N_law_step : List Str := ["cell", "some"]
theorem sc_law_step : FnScope N_law_step ["cell"] (defScope s_law_step) := ⟨rfl, rfl, rfl, by decide +kernel, rfl, by decide +kernel, by decide +kernel⟩
theorem ok_law_step {P : Program} {w : World} {K : PySem.W.Frag} {mg : Str → Option Value} {base : Heap} {f : Addr} {fd : FuncData} {x_law_stir : Addr} {d_law_stir : FuncData} (Fn : Fun K "_law_step" "_law_step" s_law_step f fd) (G_law_stir : FnOk P w K mg base CX0 1 x_law_stir d_law_stir ["cell", "k"] (spR K 2 m_law_stir)) (b_law_stir : Binds K d_law_stir ["cell", "k"] []) (k_law_stir : PySem.W.keepIn K (.ref x_law_stir) = true) (a_law_stir : mg "_law_stir" = some (.ref x_law_stir)) : FnOk P w K mg base CX0 2 f fd ["cell"] (spR K 1 m_law_step) :=
  Fn.okD (k := 1) (m := b_law_step) sc_law_step fun cdv A outer s H E hr => (pssd_cons (psd_set (i := 1) sc_law_step.nd rfl (by first | exact Or.inl rfl | exact Or.inr rfl) (pf_pd (pf_lst (pas_cons pd_int (pas_cons (pd_add pd_int (pd_mod (pd_call (fun t ha => pe_call (G_law_stir.mono (by decide)) hr rfl a_law_stir k_law_stir b_law_stir .nil pass0 ha) rfl (pas_cons (pd_var 0 (pv 0)) (pas_cons pd_int pas_nil)) (acons_len (acons_len anil_len))) pd_int)) (pas_cons (pd_add pd_int (pd_mod (pd_call (fun t ha => pe_call (G_law_stir.mono (by decide)) hr rfl a_law_stir k_law_stir b_law_stir .nil pass0 ha) rfl (pas_cons (pd_var 0 (pv 0)) (pas_cons pd_int pas_nil)) (acons_len (acons_len anil_len))) pd_int)) pas_nil)))))) (pssd_one (psd_ret (pd_ix (pf_pb (pf_cat (pb_var 1 (pv 1)) (pf_pb (pf_lst (pas_cons (pd_add pd_int (pd_mul (pd_mod (pd_call (fun t ha => pe_call (G_law_stir.mono (by decide)) hr rfl a_law_stir k_law_stir b_law_stir .nil pass0 ha) rfl (pas_cons (pd_var 0 (pv 0)) (pas_cons pd_int pas_nil)) (acons_len (acons_len anil_len))) (pd_pow pd_int pd_int)) (pd_pow pd_int pd_int))) pas_nil))))) (pd_mod (pd_call (fun t ha => pe_call (G_law_stir.mono (by decide)) hr rfl a_law_stir k_law_stir b_law_stir .nil pass0 ha) rfl (pas_cons (pd_var 0 (pv 0)) (pas_cons pd_int pas_nil)) (acons_len (acons_len anil_len))) pd_int)))))
abbrev s_law_same : Stmt := top 15
abbrev s_law_same_v0 : Stmt := top 15
abbrev N_law_same_v0 : List Str := ["found", "due"]
theorem sc_law_same_v0 : FnScope N_law_same_v0 ["found", "due"] (defScope s_law_same_v0) := ⟨rfl, rfl, rfl, by decide +kernel, rfl, by decide +kernel, by decide +kernel⟩
theorem ok_law_same_v0 {P : Program} {w : World} {K : PySem.W.Frag} {mg : Str → Option Value} {base : Heap} {f : Addr} {fd : FuncData} (Fn : Fun K "_law_same" "_law_same" s_law_same_v0 f fd) (z_bool : mg "bool" = none) (z_int : mg "int" = none) (z_isinstance : mg "isinstance" = none) (z_len : mg "len" = none) (z_list : mg "list" = none) (z_str : mg "str" = none) (z_tuple : mg "tuple" = none) : FnOk P w K mg base CX0 1 f fd ["found", "due"] (spR K 2 m_law_same_v0) :=
  Fn.okD (k := 0) (m := b_law_same_v0) sc_law_same_v0 fun cdv A outer s H E hr => (pssd_cons (psd_if (pc_tru (pd_isi (C := "str") rfl z_isinstance rfl z_str PyProof.Rows.boot_str (pd_var 1 (pv 1)))) (pssd_one (psd_ret (pd_and (pd_isi (C := "str") rfl z_isinstance rfl z_str PyProof.Rows.boot_str (pd_var 0 (pv 0))) (pd_one (pd_cmp op_eq opd_eqS (pd_var 0 (pv 0)) (pd_var 1 (pv 1)) (nomark _)))))) pssd_nil) (pssd_cons (psd_if (pc_tru (pd_isi2 (C1 := "list") (C2 := "tuple") rfl z_isinstance rfl z_list PyProof.Rows.boot_list rfl z_tuple PyProof.Rows.boot_tuple (pd_var 1 (pv 1)))) (pssd_cons (psd_if (pc_w (pcw_or (pc_cmp op_ne opd_neS (pd_isi (C := "list") rfl z_isinstance rfl z_list PyProof.Rows.boot_list (pd_var 0 (pv 0))) (pd_isi (C := "list") rfl z_isinstance rfl z_list PyProof.Rows.boot_list (pd_var 1 (pv 1))) (nomark _)) (pw1_or (pc_not (pc_tru (pd_isi2 (C1 := "list") (C2 := "tuple") rfl z_isinstance rfl z_list PyProof.Rows.boot_list rfl z_tuple PyProof.Rows.boot_tuple (pd_var 0 (pv 0)))))))) (pssd_one (psd_ret pd_bl)) pssd_nil) (pssd_cons (psd_if (pc_cmp op_ne opd_neS (pd_len rfl z_len (pas_cons (pd_var 0 (pv 0)) pas_nil)) (pd_len rfl z_len (pas_cons (pd_var 1 (pv 1)) pas_nil)) (nomark _)) (pssd_one (psd_ret pd_bl)) pssd_nil) (pssd_one psd_never))) pssd_nil) (pssd_one (psd_ret (pd_and (pd_isi (C := "int") rfl z_isinstance rfl z_int PyProof.Rows.boot_int (pd_var 0 (pv 0))) (pd_and (pd_not (pd_isi (C := "bool") rfl z_isinstance rfl z_bool PyProof.Rows.boot_bool (pd_var 0 (pv 0)))) (pd_one (pd_cmp op_eq opd_eqS (pd_var 0 (pv 0)) (pd_var 1 (pv 1)) (nomark _)))))))))
abbrev s_law_same_v1 : Stmt := top 15
abbrev N_law_same_v1 : List Str := ["found", "due"]
theorem sc_law_same_v1 : FnScope N_law_same_v1 ["found", "due"] (defScope s_law_same_v1) := ⟨rfl, rfl, rfl, by decide +kernel, rfl, by decide +kernel, by decide +kernel⟩
theorem nd_law_same_v1_0 : List.Nodup (["one", "other"] : List Str) := by decide +kernel
theorem ok_law_same_v1 {P : Program} {w : World} {K : PySem.W.Frag} {mg : Str → Option Value} {base : Heap} {f : Addr} {fd : FuncData} {x_law_same_v0 : Addr} {d_law_same_v0 : FuncData} (Fn : Fun K "_law_same" "_law_same" s_law_same_v1 f fd) (G_law_same_v0 : FnOk P w K mg base CX0 1 x_law_same_v0 d_law_same_v0 ["found", "due"] (spR K 2 m_law_same_v0)) (b_law_same_v0 : Binds K d_law_same_v0 ["found", "due"] []) (k_law_same_v0 : PySem.W.keepIn K (.ref x_law_same_v0) = true) (a_law_same_v0 : mg "_law_same" = some (.ref x_law_same_v0)) (z_bool : mg "bool" = none) (z_int : mg "int" = none) (z_isinstance : mg "isinstance" = none) (z_len : mg "len" = none) (z_list : mg "list" = none) (z_str : mg "str" = none) (z_tuple : mg "tuple" = none) (z_zip : mg "zip" = none) : FnOk P w K mg base CX0 2 f fd ["found", "due"] (spR K 2 m_law_same_v1) :=
  Fn.okD (k := 1) (m := b_law_same_v1) sc_law_same_v1 fun cdv A outer s H E hr => (pssd_cons (psd_if (pc_tru (pd_isi (C := "str") rfl z_isinstance rfl z_str PyProof.Rows.boot_str (pd_var 1 (pv 1)))) (pssd_one (psd_ret (pd_and (pd_isi (C := "str") rfl z_isinstance rfl z_str PyProof.Rows.boot_str (pd_var 0 (pv 0))) (pd_one (pd_cmp op_eq opd_eqS (pd_var 0 (pv 0)) (pd_var 1 (pv 1)) (nomark _)))))) pssd_nil) (pssd_cons (psd_if (pc_tru (pd_isi2 (C1 := "list") (C2 := "tuple") rfl z_isinstance rfl z_list PyProof.Rows.boot_list rfl z_tuple PyProof.Rows.boot_tuple (pd_var 1 (pv 1)))) (pssd_cons (psd_if (pc_w (pcw_or (pc_cmp op_ne opd_neS (pd_isi (C := "list") rfl z_isinstance rfl z_list PyProof.Rows.boot_list (pd_var 0 (pv 0))) (pd_isi (C := "list") rfl z_isinstance rfl z_list PyProof.Rows.boot_list (pd_var 1 (pv 1))) (nomark _)) (pw1_or (pc_not (pc_tru (pd_isi2 (C1 := "list") (C2 := "tuple") rfl z_isinstance rfl z_list PyProof.Rows.boot_list rfl z_tuple PyProof.Rows.boot_tuple (pd_var 0 (pv 0)))))))) (pssd_one (psd_ret pd_bl)) pssd_nil) (pssd_cons (psd_if (pc_cmp op_ne opd_neS (pd_len rfl z_len (pas_cons (pd_var 0 (pv 0)) pas_nil)) (pd_len rfl z_len (pas_cons (pd_var 1 (pv 1)) pas_nil)) (nomark _)) (pssd_one (psd_ret pd_bl)) pssd_nil) (pssd_one (psd_ret (pd_eqB (op_eqF hr.units) (pf_pb (pf_comp (blk_of (N := ["one", "other"]) (src := [none, none]) (defScope s_law_same_v1) N_law_same_v1 rfl rfl (by decide +kernel)) rfl (pid_zip2 rfl z_zip (pas_cons (pd_var 0 (pv 0)) (pas_cons (pd_var 1 (pv 1)) pas_nil))) (fun C fp s0 H0 => (pgd_tup (is := [0, 1]) (pg_tup rfl (pgs_cons (pg_name (i := 0) nd_law_same_v1_0 rfl (by first | exact Or.inl rfl | exact Or.inr rfl)) (pgs_cons (pg_name (i := 1) nd_law_same_v1_0 rfl (by first | exact Or.inl rfl | exact Or.inr rfl)) pgs_nil))))) (fun C fp s0 H0 => (ptsd_one (pc_not (pc_tru (pd_call (fun t ha => pe_call (G_law_same_v0.mono (by decide)) hr rfl a_law_same_v0 k_law_same_v0 b_law_same_v0 .nil pass0 ha) rfl (pas_cons (pd_var 0 (pv 0)) (pas_cons (pd_var 1 (pv 1)) pas_nil)) (acons_len (acons_len anil_len))))))) (fun C fp s0 H0 => pd_int))) (pf_pb (pf_lst pas_nil)) (nomark _)))))) pssd_nil) (pssd_one (psd_ret (pd_and (pd_isi (C := "int") rfl z_isinstance rfl z_int PyProof.Rows.boot_int (pd_var 0 (pv 0))) (pd_and (pd_not (pd_isi (C := "bool") rfl z_isinstance rfl z_bool PyProof.Rows.boot_bool (pd_var 0 (pv 0)))) (pd_one (pd_cmp op_eq opd_eqS (pd_var 0 (pv 0)) (pd_var 1 (pv 1)) (nomark _)))))))))
abbrev s_law_due : Stmt := top 16
abbrev N_law_due : List Str := ["row", "step", "up", "down", "place", "higher", "lower", "found", "left", "may", "here"]
theorem sc_law_due : FnScope N_law_due ["row", "step"] (defScope s_law_due) := ⟨rfl, rfl, rfl, by decide +kernel, rfl, by decide +kernel, by decide +kernel⟩
theorem nd_law_due_0 : List.Nodup (["k", "down", "row", "step", "place"] : List Str) := by decide +kernel
theorem nd_law_due_1 : List.Nodup (["k", "up", "row", "step", "place"] : List Str) := by decide +kernel
theorem ok_law_due {P : Program} {w : World} {K : PySem.W.Frag} {mg : Str → Option Value} {base : Heap} {f : Addr} {fd : FuncData} (Fn : Fun K "_law_due" "_law_due" s_law_due f fd) (z_len : mg "len" = none) (z_list : mg "list" = none) (z_max : mg "max" = none) (z_range : mg "range" = none) : FnOk P w K mg base CX0 1 f fd ["row", "step"] (spR K 2 m_law_due) :=
  Fn.okD (k := 0) (m := b_law_due) sc_law_due fun cdv A outer s H E hr => (pssd_cons (psd_setF (i := 2) sc_law_due.nd rfl (by first | exact Or.inl rfl | exact Or.inr rfl) (pf_lst pas_nil)) (pssd_cons (psd_setF (i := 3) sc_law_due.nd rfl (by first | exact Or.inl rfl | exact Or.inr rfl) (pf_lst pas_nil)) (pssd_cons (psd_for PassesOwn.never rfl (pid_range3 rfl z_range (pas_cons (pd_sub (pd_lenB rfl z_len (pb_var 0 (pv 0))) pd_int) (pas_cons (pd_neg pd_int) (pas_cons (pd_neg pd_int) pas_nil)))) (pgd_name (i := 4) (pg_name sc_law_due.nd rfl (by first | exact Or.inl rfl | exact Or.inr rfl))) (pssd_cons (psd_setCsO (srcOk_of (by decide)) (ps_setC (i := 5) sc_law_due.nd rfl (by first | exact Or.inl rfl | exact Or.inr rfl) (blk_of (N := ["k", "down", "row", "step", "place"]) (src := [none, some 3, some 0, some 1, some 4]) (defScope s_law_due) N_law_due rfl rfl (by decide +kernel)) rfl (pid_range1 rfl z_range (pas_cons (pd_lenB rfl z_len (pb_var 2 (pv 2))) pas_nil)) (fun C fp s0 H0 => (pgd_name (i := 0) (pg_name nd_law_due_0 rfl (by first | exact Or.inl rfl | exact Or.inr rfl)))) (fun C fp s0 H0 => (ptsd_one (pc_cmp op_ge opd_ge (pd_ix (pb_var 2 (pv 2)) (pd_sub (pd_sub (pd_lenB rfl z_len (pb_var 2 (pv 2))) pd_int) (pd_var 0 (pv 0)))) (pd_add (pd_ix (pb_var 2 (pv 2)) (pd_var 4 (pv 4))) (pd_var 3 (pv 3))) (nomark _)))) (fun C fp s0 H0 => (pd_ix (pb_var 1 (pv 1)) (pd_var 0 (pv 0)))))) (pssd_cons (psd_setCsO (srcOk_of (by decide)) (ps_setC (i := 6) sc_law_due.nd rfl (by first | exact Or.inl rfl | exact Or.inr rfl) (blk_of (N := ["k", "up", "row", "step", "place"]) (src := [none, some 2, some 0, some 1, some 4]) (defScope s_law_due) N_law_due rfl rfl (by decide +kernel)) rfl (pid_range1 rfl z_range (pas_cons (pd_lenB rfl z_len (pb_var 2 (pv 2))) pas_nil)) (fun C fp s0 H0 => (pgd_name (i := 0) (pg_name nd_law_due_1 rfl (by first | exact Or.inl rfl | exact Or.inr rfl)))) (fun C fp s0 H0 => (ptsd_one (pc_cmp op_le opd_le (pd_ix (pb_var 2 (pv 2)) (pd_sub (pd_sub (pd_lenB rfl z_len (pb_var 2 (pv 2))) pd_int) (pd_var 0 (pv 0)))) (pd_sub (pd_ix (pb_var 2 (pv 2)) (pd_var 4 (pv 4))) (pd_var 3 (pv 3))) (nomark _)))) (fun C fp s0 H0 => (pd_ix (pb_var 1 (pv 1)) (pd_var 0 (pv 0)))))) (pssd_cons (psd_append (i := 2) (pv 2) (pd_add pd_int (pd_maxL rfl rfl z_max (pf_pb (pf_cat (pf_pb (pf_lst (pas_cons pd_int pas_nil))) (pb_var 5 (pv 5)))))) (fun t ha => pe_bm PySem.F.plainAttrs_list PySem.F.slot_list_append PySem.F.type_list_append mt_append (pv 2) ha) (pas_cons (pd_add pd_int (pd_maxL rfl rfl z_max (pf_pb (pf_cat (pf_pb (pf_lst (pas_cons pd_int pas_nil))) (pb_var 5 (pv 5)))))) pas_nil)) (pssd_one (psd_append (i := 3) (pv 3) (pd_add pd_int (pd_maxL rfl rfl z_max (pf_pb (pf_cat (pf_pb (pf_lst (pas_cons pd_int pas_nil))) (pb_var 6 (pv 6)))))) (fun t ha => pe_bm PySem.F.plainAttrs_list PySem.F.slot_list_append PySem.F.type_list_append mt_append (pv 3) ha) (pas_cons (pd_add pd_int (pd_maxL rfl rfl z_max (pf_pb (pf_cat (pf_pb (pf_lst (pas_cons pd_int pas_nil))) (pb_var 6 (pv 6)))))) pas_nil))))))) (pssd_freeze 2 (pssd_freeze 3 (pssd_cons (psd_setF (i := 2) sc_law_due.nd rfl (by first | exact Or.inl rfl | exact Or.inr rfl) (pf_rev (pb_var 2 (pv 2)) (pos_some (pd_neg pd_int)))) (pssd_cons (psd_setF (i := 3) sc_law_due.nd rfl (by first | exact Or.inl rfl | exact Or.inr rfl) (pf_rev (pb_var 3 (pv 3)) (pos_some (pd_neg pd_int)))) (pssd_cons (psd_setF (i := 7) sc_law_due.nd rfl (by first | exact Or.inl rfl | exact Or.inr rfl) (pf_lst pas_nil)) (pssd_cons (psd_set (i := 8) sc_law_due.nd rfl (by first | exact Or.inl rfl | exact Or.inr rfl) (pd_maxL rfl rfl z_max (pf_pb (pf_cat (pf_pb (pf_cat (pf_pb (pf_lst (pas_cons pd_int pas_nil))) (pb_var 2 (pv 2)))) (pb_var 3 (pv 3)))))) (pssd_cons (psd_set (i := 9) sc_law_due.nd rfl (by first | exact Or.inl rfl | exact Or.inr rfl) (pf_pd (pf_lst (pas_cons pd_bl (pas_cons pd_bl pas_nil))))) (pssd_cons (psd_for PassesOwn.never rfl (pid_range1 rfl z_range (pas_cons (pd_lenB rfl z_len (pb_var 0 (pv 0))) pas_nil)) (pgd_name (i := 4) (pg_name sc_law_due.nd rfl (by first | exact Or.inl rfl | exact Or.inr rfl))) (pssd_cons (psd_set (i := 10) sc_law_due.nd rfl (by first | exact Or.inl rfl | exact Or.inr rfl) (pf_pd (pf_list rfl z_list (pb_var 9 (pv 9)) PyProof.Rows.boot_list))) (pssd_cons (psd_if (pc_eqB (op_neF hr.units) (pb_var 7 (pv 7)) (pf_pb (pf_lst pas_nil)) (nomark _)) (pssd_one (psd_set (i := 10) sc_law_due.nd rfl (by first | exact Or.inl rfl | exact Or.inr rfl) (pf_pd (pf_lst (pas_cons (pd_and (pd_ix (pb_var 9 (pv 9)) pd_int) (pd_one (pd_cmp op_le opd_le (pd_ix (pb_var 0 (pv 0)) (pd_var 4 (pv 4))) (pd_sub (pd_ix (pb_var 0 (pv 0)) (pd_ix (pb_var 7 (pv 7)) (pd_neg pd_int))) (pd_var 1 (pv 1))) (nomark _)))) (pas_cons (pd_and (pd_ix (pb_var 9 (pv 9)) pd_int) (pd_one (pd_cmp op_ge opd_ge (pd_ix (pb_var 0 (pv 0)) (pd_var 4 (pv 4))) (pd_add (pd_ix (pb_var 0 (pv 0)) (pd_ix (pb_var 7 (pv 7)) (pd_neg pd_int))) (pd_var 1 (pv 1))) (nomark _)))) pas_nil)))))) pssd_nil) (pssd_cons (psd_set (i := 10) sc_law_due.nd rfl (by first | exact Or.inl rfl | exact Or.inr rfl) (pf_pd (pf_lst (pas_cons (pd_and (pd_ix (pb_var 10 (pv 10)) pd_int) (pd_one (pd_cmp op_eq opd_eqS (pd_ix (pb_var 2 (pv 2)) (pd_var 4 (pv 4))) (pd_var 8 (pv 8)) (nomark _)))) (pas_cons (pd_and (pd_ix (pb_var 10 (pv 10)) pd_int) (pd_one (pd_cmp op_eq opd_eqS (pd_ix (pb_var 3 (pv 3)) (pd_var 4 (pv 4))) (pd_var 8 (pv 8)) (nomark _)))) pas_nil))))) (pssd_one (psd_if (pc_w (pcw_and (pc_cmp op_gt opd_gt (pd_var 8 (pv 8)) pd_int (nomark _)) (pw1_and (pc_cmp op_in_seq opd_in pd_bl (pd_var 10 (pv 10)) rfl)))) (pssd_cons (psd_append (i := 7) (pv 7) (pd_var 4 (pv 4)) (fun t ha => pe_bm PySem.F.plainAttrs_list PySem.F.slot_list_append PySem.F.type_list_append mt_append (pv 7) ha) (pas_cons (pd_var 4 (pv 4)) pas_nil)) (pssd_cons (psd_set (i := 9) sc_law_due.nd rfl (by first | exact Or.inl rfl | exact Or.inr rfl) (pd_var 10 (pv 10))) (pssd_one (psd_set (i := 8) sc_law_due.nd rfl (by first | exact Or.inl rfl | exact Or.inr rfl) (pd_sub (pd_var 8 (pv 8)) pd_int))))) pssd_nil)))))) (pssd_one (psd_retO 7 (pv 7))))))))))))))
abbrev s_law : Stmt := top 17
abbrev N_law : List Str := ["script", "cell", "row", "step", "due", "handed", "turn", "found"]
theorem sc_law : FnScope N_law ["script"] (defScope s_law) := ⟨rfl, rfl, rfl, by decide +kernel, rfl, by decide +kernel, by decide +kernel⟩
theorem ok_law {P : Program} {w : World} {K : PySem.W.Frag} {mg : Str → Option Value} {base : Heap} {f : Addr} {fd : FuncData} {x_law_cells : Addr} {d_law_cells : FuncData} {x_law_due : Addr} {d_law_due : FuncData} {x_law_row : Addr} {d_law_row : FuncData} {x_law_same_v1 : Addr} {d_law_same_v1 : FuncData} {x_law_step : Addr} {d_law_step : FuncData} {x_how_long : Addr} {d_how_long : FuncData} {x_longest_v9 : Addr} {d_longest_v9 : FuncData} (Fn : Fun K "law" "law" s_law f fd) (G_law_cells : FnOk P w K mg base CX0 1 x_law_cells d_law_cells ["script", "many"] (spR K 2 m_law_cells)) (b_law_cells : Binds K d_law_cells ["script", "many"] []) (k_law_cells : PySem.W.keepIn K (.ref x_law_cells) = true) (a_law_cells : mg "_law_cells" = some (.ref x_law_cells)) (G_law_due : FnOk P w K mg base CX0 1 x_law_due d_law_due ["row", "step"] (spR K 2 m_law_due)) (b_law_due : Binds K d_law_due ["row", "step"] []) (k_law_due : PySem.W.keepIn K (.ref x_law_due) = true) (a_law_due : mg "_law_due" = some (.ref x_law_due)) (G_law_row : FnOk P w K mg base CX0 2 x_law_row d_law_row ["cell", "most"] (spR K 2 m_law_row)) (b_law_row : Binds K d_law_row ["cell", "most"] []) (k_law_row : PySem.W.keepIn K (.ref x_law_row) = true) (a_law_row : mg "_law_row" = some (.ref x_law_row)) (G_law_same_v1 : FnOk P w K mg base CX0 2 x_law_same_v1 d_law_same_v1 ["found", "due"] (spR K 2 m_law_same_v1)) (b_law_same_v1 : Binds K d_law_same_v1 ["found", "due"] []) (k_law_same_v1 : PySem.W.keepIn K (.ref x_law_same_v1) = true) (a_law_same_v1 : mg "_law_same" = some (.ref x_law_same_v1)) (G_law_step : FnOk P w K mg base CX0 2 x_law_step d_law_step ["cell"] (spR K 1 m_law_step)) (b_law_step : Binds K d_law_step ["cell"] []) (k_law_step : PySem.W.keepIn K (.ref x_law_step) = true) (a_law_step : mg "_law_step" = some (.ref x_law_step)) (G_how_long : FnOk P w K mg base CX0 4 x_how_long d_how_long ["row", "step"] (spR K 2 m_how_long)) (b_how_long : Binds K d_how_long ["row", "step"] []) (k_how_long : PySem.W.keepIn K (.ref x_how_long) = true) (a_how_long : mg "how_long" = some (.ref x_how_long)) (G_longest_v9 : FnOk P w K mg base CX0 3 x_longest_v9 d_longest_v9 ["row", "step"] (spG K 2 m_longest_v9)) (b_longest_v9 : Binds K d_longest_v9 ["row", "step"] []) (k_longest_v9 : PySem.W.keepIn K (.ref x_longest_v9) = true) (a_longest_v9 : mg "longest" = some (.ref x_longest_v9)) (nl : NoL K) (z_len : mg "len" = none) (z_list : mg "list" = none) (z_range : mg "range" = none) : FnOk P w K mg base CX0 5 f fd ["script"] (spR K 1 m_law) :=
  Fn.okD (k := 4) (m := b_law) sc_law fun cdv A outer s H E hr => (pssd_cons (psd_for PassesOwn.never rfl (pid_seq (pd_call (fun t ha => pe_call (G_law_cells.mono (by decide)) hr rfl a_law_cells k_law_cells b_law_cells .nil pass0 ha) rfl (pas_cons (pd_var 0 (pv 0)) (pas_cons pd_int pas_nil)) (acons_len (acons_len anil_len)))) (pgd_name (i := 1) (pg_name sc_law.nd rfl (by first | exact Or.inl rfl | exact Or.inr rfl))) (pssd_cons (psd_set (i := 2) sc_law.nd rfl (by first | exact Or.inl rfl | exact Or.inr rfl) (pd_call (fun t ha => pe_call (G_law_row.mono (by decide)) hr rfl a_law_row k_law_row b_law_row .nil pass0 ha) rfl (pas_cons (pd_var 1 (pv 1)) (pas_cons pd_int pas_nil)) (acons_len (acons_len anil_len)))) (pssd_cons (psd_set (i := 3) sc_law.nd rfl (by first | exact Or.inl rfl | exact Or.inr rfl) (pd_call (fun t ha => pe_call (G_law_step.mono (by decide)) hr rfl a_law_step k_law_step b_law_step .nil pass0 ha) rfl (pas_cons (pd_var 1 (pv 1)) pas_nil) (acons_len anil_len))) (pssd_cons (psd_set (i := 4) sc_law.nd rfl (by first | exact Or.inl rfl | exact Or.inr rfl) (pd_call (fun t ha => pe_call (G_law_due.mono (by decide)) hr rfl a_law_due k_law_due b_law_due .nil pass0 ha) rfl (pas_cons (pd_var 2 (pv 2)) (pas_cons (pd_var 3 (pv 3)) pas_nil)) (acons_len (acons_len anil_len)))) (pssd_cons (psd_setF (i := 5) sc_law.nd rfl (by first | exact Or.inl rfl | exact Or.inr rfl) (pf_list rfl z_list (pb_var 2 (pv 2)) PyProof.Rows.boot_list)) (pssd_one (psd_for PassesOwn.never rfl (pid_range1 rfl z_range (pas_cons pd_int pas_nil)) (pgd_name (i := 6) (pg_name sc_law.nd rfl (by first | exact Or.inl rfl | exact Or.inr rfl))) (pssd_cons (psd_setN nl (i := 5) (j := 7) sc_law.nd rfl (by first | exact Or.inl rfl | exact Or.inr rfl) (fun t ha => pe_call (G_longest_v9.mono (by decide)) hr rfl a_longest_v9 k_longest_v9 b_longest_v9 .nil pass0 ha) rfl (pv 5) (pas_cons (pd_var 3 (pv 3)) pas_nil) (acons_len anil_len)) (pssd_cons (psd_if (pc_w (pcw_or (pc_not (pc_tru (pd_borT 7 (pd_call (fun t ha => pe_call (G_law_same_v1.mono (by decide)) hr rfl a_law_same_v1 k_law_same_v1 b_law_same_v1 .nil pass0 ha) rfl (pas_cons (pd_var 7 (pv 7)) (pas_cons (pd_var 4 (pv 4)) pas_nil)) (acons_len (acons_len anil_len)))))) (pcw_or (pc_not (pc_tru (pd_call (fun t ha => pe_call (G_law_same_v1.mono (by decide)) hr rfl a_law_same_v1 k_law_same_v1 b_law_same_v1 .nil pass0 ha) rfl (pas_cons (pd_borT 5 (pd_call (fun t ha => pe_call (G_how_long.mono (by decide)) hr rfl a_how_long k_how_long b_how_long .nil pass0 ha) rfl (pas_cons (pd_var 5 (pv 5)) (pas_cons (pd_var 3 (pv 3)) pas_nil)) (acons_len (acons_len anil_len)))) (pas_cons (pd_lenB rfl z_len (pb_var 4 (pv 4))) pas_nil)) (acons_len (acons_len anil_len))))) (pw1_or (pc_eqB (op_neF hr.units) (pb_var 5 (pv 5)) (pb_var 2 (pv 2)) (nomark _)))))) (pssd_one (psd_ret pd_bl)) pssd_nil) (pssd_one (psd_append (i := 7) (pv 7) pd_int (fun t ha => pe_bm PySem.F.plainAttrs_list PySem.F.slot_list_append PySem.F.type_list_append mt_append (pv 7) ha) (pas_cons pd_int pas_nil)))))))))))) (pssd_one (psd_ret pd_bl)))
theorem all_mk {l : PySem.W.OpenLaw} {w : World} {K : PySem.W.Frag} {h : Heap} {mg : Str → Option Value} {fa x_refuse_step x_tails x_longer_first x_longest x_how_long x_law_stir x_law_cells x_law_row x_law_step x_law_same x_law_due x_law : Addr} (X : K.In h) (G : h.Ns mainGlobals mg) (hfa : mg "law" = some (.ref fa)) {o1_refuse_step o2_refuse_step : Option Addr} {sl_refuse_step : Array (Option Value)} {oc_refuse_step kV_refuse_step dc_refuse_step pm_refuse_step cd_refuse_step ct_refuse_step : Value} {o1_tails o2_tails : Option Addr} {sl_tails : Array (Option Value)} {oc_tails kV_tails dc_tails pm_tails cd_tails ct_tails : Value} {o1_longer_first o2_longer_first : Option Addr} {sl_longer_first : Array (Option Value)} {oc_longer_first kV_longer_first dc_longer_first pm_longer_first cd_longer_first ct_longer_first : Value} {o1_longest o2_longest : Option Addr} {sl_longest : Array (Option Value)} {oc_longest kV_longest dc_longest pm_longest cd_longest ct_longest : Value} {o1_how_long o2_how_long : Option Addr} {sl_how_long : Array (Option Value)} {oc_how_long kV_how_long dc_how_long pm_how_long cd_how_long ct_how_long : Value} {o1_law_stir o2_law_stir : Option Addr} {sl_law_stir : Array (Option Value)} {oc_law_stir kV_law_stir dc_law_stir pm_law_stir cd_law_stir ct_law_stir : Value} {o1_law_cells o2_law_cells : Option Addr} {sl_law_cells : Array (Option Value)} {oc_law_cells kV_law_cells dc_law_cells pm_law_cells cd_law_cells ct_law_cells : Value} {o1_law_row o2_law_row : Option Addr} {sl_law_row : Array (Option Value)} {oc_law_row kV_law_row dc_law_row pm_law_row cd_law_row ct_law_row : Value} {o1_law_step o2_law_step : Option Addr} {sl_law_step : Array (Option Value)} {oc_law_step kV_law_step dc_law_step pm_law_step cd_law_step ct_law_step : Value} {o1_law_same o2_law_same : Option Addr} {sl_law_same : Array (Option Value)} {oc_law_same kV_law_same dc_law_same pm_law_same cd_law_same ct_law_same : Value} {o1_law_due o2_law_due : Option Addr} {sl_law_due : Array (Option Value)} {oc_law_due kV_law_due dc_law_due pm_law_due cd_law_due ct_law_due : Value} {o1_law o2_law : Option Addr} {sl_law : Array (Option Value)} {oc_law kV_law dc_law pm_law cd_law ct_law : Value}
    (e_refuse_step : PySem.W.nsIn K mainGlobals "refuse_step" = some (some (.ref x_refuse_step))) (l_refuse_step : K.lookup x_refuse_step = some ⟨oc_refuse_step, o1_refuse_step, .func (PySem.W.fnOf "refuse_step" "refuse_step" (defArgs s_refuse_step) (defBody s_refuse_step) (defScope s_refuse_step) .none kV_refuse_step dc_refuse_step pm_refuse_step o2_refuse_step cd_refuse_step ct_refuse_step), sl_refuse_step⟩) (c_refuse_step : PySem.W.codeIn K cd_refuse_step "refuse_step" = true) (k_refuse_step : PySem.W.keepIn K (.ref x_refuse_step) = true)
    (e_tails : PySem.W.nsIn K mainGlobals "tails" = some (some (.ref x_tails))) (l_tails : K.lookup x_tails = some ⟨oc_tails, o1_tails, .func (PySem.W.fnOf "tails" "tails" (defArgs s_tails) (defBody s_tails) (defScope s_tails) .none kV_tails dc_tails pm_tails o2_tails cd_tails ct_tails), sl_tails⟩) (c_tails : PySem.W.codeIn K cd_tails "tails" = true) (k_tails : PySem.W.keepIn K (.ref x_tails) = true)
    (e_longer_first : PySem.W.nsIn K mainGlobals "longer_first" = some (some (.ref x_longer_first))) (l_longer_first : K.lookup x_longer_first = some ⟨oc_longer_first, o1_longer_first, .func (PySem.W.fnOf "longer_first" "longer_first" (defArgs s_longer_first) (defBody s_longer_first) (defScope s_longer_first) .none kV_longer_first dc_longer_first pm_longer_first o2_longer_first cd_longer_first ct_longer_first), sl_longer_first⟩) (c_longer_first : PySem.W.codeIn K cd_longer_first "longer_first" = true) (k_longer_first : PySem.W.keepIn K (.ref x_longer_first) = true)
    (e_longest : PySem.W.nsIn K mainGlobals "longest" = some (some (.ref x_longest))) (l_longest : K.lookup x_longest = some ⟨oc_longest, o1_longest, .func (PySem.W.fnOf "longest" "longest" (defArgs s_longest) (defBody s_longest) (defScope s_longest) .none kV_longest dc_longest pm_longest o2_longest cd_longest ct_longest), sl_longest⟩) (c_longest : PySem.W.codeIn K cd_longest "longest" = true) (k_longest : PySem.W.keepIn K (.ref x_longest) = true)
    (e_how_long : PySem.W.nsIn K mainGlobals "how_long" = some (some (.ref x_how_long))) (l_how_long : K.lookup x_how_long = some ⟨oc_how_long, o1_how_long, .func (PySem.W.fnOf "how_long" "how_long" (defArgs s_how_long) (defBody s_how_long) (defScope s_how_long) .none kV_how_long dc_how_long pm_how_long o2_how_long cd_how_long ct_how_long), sl_how_long⟩) (c_how_long : PySem.W.codeIn K cd_how_long "how_long" = true) (k_how_long : PySem.W.keepIn K (.ref x_how_long) = true)
    (e_law_stir : PySem.W.nsIn K mainGlobals "_law_stir" = some (some (.ref x_law_stir))) (l_law_stir : K.lookup x_law_stir = some ⟨oc_law_stir, o1_law_stir, .func (PySem.W.fnOf "_law_stir" "_law_stir" (defArgs s_law_stir) (defBody s_law_stir) (defScope s_law_stir) .none kV_law_stir dc_law_stir pm_law_stir o2_law_stir cd_law_stir ct_law_stir), sl_law_stir⟩) (c_law_stir : PySem.W.codeIn K cd_law_stir "_law_stir" = true) (k_law_stir : PySem.W.keepIn K (.ref x_law_stir) = true)
    (e_law_cells : PySem.W.nsIn K mainGlobals "_law_cells" = some (some (.ref x_law_cells))) (l_law_cells : K.lookup x_law_cells = some ⟨oc_law_cells, o1_law_cells, .func (PySem.W.fnOf "_law_cells" "_law_cells" (defArgs s_law_cells) (defBody s_law_cells) (defScope s_law_cells) .none kV_law_cells dc_law_cells pm_law_cells o2_law_cells cd_law_cells ct_law_cells), sl_law_cells⟩) (c_law_cells : PySem.W.codeIn K cd_law_cells "_law_cells" = true) (k_law_cells : PySem.W.keepIn K (.ref x_law_cells) = true)
    (e_law_row : PySem.W.nsIn K mainGlobals "_law_row" = some (some (.ref x_law_row))) (l_law_row : K.lookup x_law_row = some ⟨oc_law_row, o1_law_row, .func (PySem.W.fnOf "_law_row" "_law_row" (defArgs s_law_row) (defBody s_law_row) (defScope s_law_row) .none kV_law_row dc_law_row pm_law_row o2_law_row cd_law_row ct_law_row), sl_law_row⟩) (c_law_row : PySem.W.codeIn K cd_law_row "_law_row" = true) (k_law_row : PySem.W.keepIn K (.ref x_law_row) = true)
    (e_law_step : PySem.W.nsIn K mainGlobals "_law_step" = some (some (.ref x_law_step))) (l_law_step : K.lookup x_law_step = some ⟨oc_law_step, o1_law_step, .func (PySem.W.fnOf "_law_step" "_law_step" (defArgs s_law_step) (defBody s_law_step) (defScope s_law_step) .none kV_law_step dc_law_step pm_law_step o2_law_step cd_law_step ct_law_step), sl_law_step⟩) (c_law_step : PySem.W.codeIn K cd_law_step "_law_step" = true) (k_law_step : PySem.W.keepIn K (.ref x_law_step) = true)
    (e_law_same : PySem.W.nsIn K mainGlobals "_law_same" = some (some (.ref x_law_same))) (l_law_same : K.lookup x_law_same = some ⟨oc_law_same, o1_law_same, .func (PySem.W.fnOf "_law_same" "_law_same" (defArgs s_law_same) (defBody s_law_same) (defScope s_law_same) .none kV_law_same dc_law_same pm_law_same o2_law_same cd_law_same ct_law_same), sl_law_same⟩) (c_law_same : PySem.W.codeIn K cd_law_same "_law_same" = true) (k_law_same : PySem.W.keepIn K (.ref x_law_same) = true)
    (e_law_due : PySem.W.nsIn K mainGlobals "_law_due" = some (some (.ref x_law_due))) (l_law_due : K.lookup x_law_due = some ⟨oc_law_due, o1_law_due, .func (PySem.W.fnOf "_law_due" "_law_due" (defArgs s_law_due) (defBody s_law_due) (defScope s_law_due) .none kV_law_due dc_law_due pm_law_due o2_law_due cd_law_due ct_law_due), sl_law_due⟩) (c_law_due : PySem.W.codeIn K cd_law_due "_law_due" = true) (k_law_due : PySem.W.keepIn K (.ref x_law_due) = true)
    (e_law : PySem.W.nsIn K mainGlobals "law" = some (some (.ref x_law))) (l_law : K.lookup x_law = some ⟨oc_law, o1_law, .func (PySem.W.fnOf "law" "law" (defArgs s_law) (defBody s_law) (defScope s_law) .none kV_law dc_law pm_law o2_law cd_law ct_law), sl_law⟩) (c_law : PySem.W.codeIn K cd_law "law" = true) (k_law : PySem.W.keepIn K (.ref x_law) = true)
    (nl : NoL K)
    (y_bool : PySem.W.nsIn K mainGlobals "bool" = some none)
    (y_int : PySem.W.nsIn K mainGlobals "int" = some none)
    (y_isinstance : PySem.W.nsIn K mainGlobals "isinstance" = some none)
    (y_len : PySem.W.nsIn K mainGlobals "len" = some none)
    (y_list : PySem.W.nsIn K mainGlobals "list" = some none)
    (y_max : PySem.W.nsIn K mainGlobals "max" = some none)
    (y_min : PySem.W.nsIn K mainGlobals "min" = some none)
    (y_range : PySem.W.nsIn K mainGlobals "range" = some none)
    (y_reversed : PySem.W.nsIn K mainGlobals "reversed" = some none)
    (y_str : PySem.W.nsIn K mainGlobals "str" = some none)
    (y_tuple : PySem.W.nsIn K mainGlobals "tuple" = some none)
    (y_zip : PySem.W.nsIn K mainGlobals "zip" = some none) :
    ∃ fd : FuncData, (∀ (s : Shared) (v : Value), BindsTo s fd ⟨[v], []⟩ [("script", v)]) ∧ ∀ base : Heap, K.In base → base.Ns mainGlobals mg → FnOk l.prog w K mg base CX0 5 fa fd ["script"] (spR K 1 m_law) := by
  have e := hfa.symm.trans (PySem.W.mg_of X G e_law)
  cases e
  have F_refuse_step := fun_mk (st := s_refuse_step) l_refuse_step c_refuse_step k_refuse_step
  have b_refuse_step := F_refuse_step.binds (ps := ["step"]) fun _ _ _ _ _ _ us hl => match us, hl with | [_], _ => rfl
  have a_refuse_step := PySem.W.mg_of X G e_refuse_step
  have F_tails := fun_mk (st := s_tails) l_tails c_tails k_tails
  have b_tails := F_tails.binds (ps := ["row", "step"]) fun _ _ _ _ _ _ us hl => match us, hl with | [_, _], _ => rfl
  have a_tails := PySem.W.mg_of X G e_tails
  have F_longer_first := fun_mk (st := s_longer_first) l_longer_first c_longer_first k_longer_first
  have b_longer_first := F_longer_first.binds (ps := ["places"]) fun _ _ _ _ _ _ us hl => match us, hl with | [_], _ => rfl
  have a_longer_first := PySem.W.mg_of X G e_longer_first
  have F_longest := fun_mk (st := s_longest) l_longest c_longest k_longest
  have b_longest := F_longest.binds (ps := ["row", "step"]) fun _ _ _ _ _ _ us hl => match us, hl with | [_, _], _ => rfl
  have a_longest := PySem.W.mg_of X G e_longest
  have F_how_long := fun_mk (st := s_how_long) l_how_long c_how_long k_how_long
  have b_how_long := F_how_long.binds (ps := ["row", "step"]) fun _ _ _ _ _ _ us hl => match us, hl with | [_, _], _ => rfl
  have a_how_long := PySem.W.mg_of X G e_how_long
  have F_law_stir := fun_mk (st := s_law_stir) l_law_stir c_law_stir k_law_stir
  have b_law_stir := F_law_stir.binds (ps := ["cell", "k"]) fun _ _ _ _ _ _ us hl => match us, hl with | [_, _], _ => rfl
  have a_law_stir := PySem.W.mg_of X G e_law_stir
  have F_law_cells := fun_mk (st := s_law_cells) l_law_cells c_law_cells k_law_cells
  have b_law_cells := F_law_cells.binds (ps := ["script", "many"]) fun _ _ _ _ _ _ us hl => match us, hl with | [_, _], _ => rfl
  have a_law_cells := PySem.W.mg_of X G e_law_cells
  have F_law_row := fun_mk (st := s_law_row) l_law_row c_law_row k_law_row
  have b_law_row := F_law_row.binds (ps := ["cell", "most"]) fun _ _ _ _ _ _ us hl => match us, hl with | [_, _], _ => rfl
  have a_law_row := PySem.W.mg_of X G e_law_row
  have F_law_step := fun_mk (st := s_law_step) l_law_step c_law_step k_law_step
  have b_law_step := F_law_step.binds (ps := ["cell"]) fun _ _ _ _ _ _ us hl => match us, hl with | [_], _ => rfl
  have a_law_step := PySem.W.mg_of X G e_law_step
  have F_law_same := fun_mk (st := s_law_same) l_law_same c_law_same k_law_same
  have b_law_same := F_law_same.binds (ps := ["found", "due"]) fun _ _ _ _ _ _ us hl => match us, hl with | [_, _], _ => rfl
  have a_law_same := PySem.W.mg_of X G e_law_same
  have F_law_due := fun_mk (st := s_law_due) l_law_due c_law_due k_law_due
  have b_law_due := F_law_due.binds (ps := ["row", "step"]) fun _ _ _ _ _ _ us hl => match us, hl with | [_, _], _ => rfl
  have a_law_due := PySem.W.mg_of X G e_law_due
  have F_law := fun_mk (st := s_law) l_law c_law k_law
  have b_law := F_law.binds (ps := ["script"]) fun _ _ _ _ _ _ us hl => match us, hl with | [_], _ => rfl
  have a_law := PySem.W.mg_of X G e_law
  have z_bool := PySem.W.mg_none_of X G y_bool
  have z_int := PySem.W.mg_none_of X G y_int
  have z_isinstance := PySem.W.mg_none_of X G y_isinstance
  have z_len := PySem.W.mg_none_of X G y_len
  have z_list := PySem.W.mg_none_of X G y_list
  have z_max := PySem.W.mg_none_of X G y_max
  have z_min := PySem.W.mg_none_of X G y_min
  have z_range := PySem.W.mg_none_of X G y_range
  have z_reversed := PySem.W.mg_none_of X G y_reversed
  have z_str := PySem.W.mg_none_of X G y_str
  have z_tuple := PySem.W.mg_none_of X G y_tuple
  have z_zip := PySem.W.mg_none_of X G y_zip
  refine ⟨PySem.W.fnOf "law" "law" (defArgs s_law) (defBody s_law) (defScope s_law) .none kV_law dc_law pm_law o2_law cd_law ct_law, fun s v => .of_eq rfl, fun base _ _ => ?_⟩
  have G_refuse_step := ok_refuse_step (P := l.prog) (w := w) (mg := mg) (base := base) F_refuse_step    
  have G_tails := ok_tails (P := l.prog) (w := w) (mg := mg) (base := base) F_tails    z_len z_range z_reversed
  have G_tails_v9 := ok_tails_v9 (P := l.prog) (w := w) (mg := mg) (base := base) F_tails    z_len z_range z_reversed
  have G_longer_first := ok_longer_first (P := l.prog) (w := w) (mg := mg) (base := base) F_longer_first    z_len
  have G_longest := ok_longest (P := l.prog) (w := w) (mg := mg) (base := base) F_longest G_longer_first b_longer_first k_longer_first a_longer_first G_refuse_step b_refuse_step k_refuse_step a_refuse_step G_tails b_tails k_tails a_tails   z_min
  have G_longest_v9 := ok_longest_v9 (P := l.prog) (w := w) (mg := mg) (base := base) F_longest G_longer_first b_longer_first k_longer_first a_longer_first G_refuse_step b_refuse_step k_refuse_step a_refuse_step G_tails_v9 b_tails k_tails a_tails   z_min
  have G_how_long := ok_how_long (P := l.prog) (w := w) (mg := mg) (base := base) F_how_long G_longest b_longest k_longest a_longest   z_len
  have G_law_stir := ok_law_stir (P := l.prog) (w := w) (mg := mg) (base := base) F_law_stir    
  have G_law_cells := ok_law_cells (P := l.prog) (w := w) (mg := mg) (base := base) F_law_cells    z_len z_max z_min
  have G_law_row := ok_law_row (P := l.prog) (w := w) (mg := mg) (base := base) F_law_row G_law_stir b_law_stir k_law_stir a_law_stir   z_min z_range
  have G_law_step := ok_law_step (P := l.prog) (w := w) (mg := mg) (base := base) F_law_step G_law_stir b_law_stir k_law_stir a_law_stir   
  have G_law_same_v0 := ok_law_same_v0 (P := l.prog) (w := w) (mg := mg) (base := base) F_law_same    z_bool z_int z_isinstance z_len z_list z_str z_tuple
  have G_law_same_v1 := ok_law_same_v1 (P := l.prog) (w := w) (mg := mg) (base := base) F_law_same G_law_same_v0 b_law_same k_law_same a_law_same   z_bool z_int z_isinstance z_len z_list z_str z_tuple z_zip
  have G_law_due := ok_law_due (P := l.prog) (w := w) (mg := mg) (base := base) F_law_due    z_len z_list z_max z_range
  have G_law := ok_law (P := l.prog) (w := w) (mg := mg) (base := base) F_law G_law_cells b_law_cells k_law_cells a_law_cells G_law_due b_law_due k_law_due a_law_due G_law_row b_law_row k_law_row a_law_row G_law_same_v1 b_law_same k_law_same a_law_same G_law_step b_law_step k_law_step a_law_step G_how_long b_how_long k_how_long a_how_long G_longest_v9 b_longest k_longest a_longest   nl z_len z_list z_range
  exact G_law
theorem walk {l : PySem.W.OpenLaw} {q : Program} {loose : List Str} {XP : (Str → Option Value) → Heap → Prop} {YP : World → Heap → Prop} {d : DefRec} {K : Params → PySem.W.Frag} (hn : l.most = some 63) (hdf : d.params.defaults = [])
    (law : ∀ ns : List Int, ns.length ≤ 63 → m_law [.lst (ns.map .int)] = some (.sh (.bl true)))
    (hY : ∀ (w : World) (h : Heap), YP w h → (K w.params).In h)
    (F : ∀ (w : World) (mg : Str → Option Value) (fa : Addr) (h : Heap), (K w.params).In h → h.Ns mainGlobals mg → mg d.name = some (.ref fa) →
      ∃ fd : FuncData, (∀ (s : Shared) (u : Value), BindsTo s fd ⟨[u], []⟩ [("script", u)]) ∧ ∀ base : Heap, (K w.params).In base → base.Ns mainGlobals mg → FnOk l.prog w (K w.params) mg base CX0 5 fa fd ["script"] (spR (K w.params) 1 m_law)) :
    PySem.W.WalkO q loose XP YP l.row.toRowW d [] (fun f vs => PySem.call f vs) :=
  L2.walk_of (n := 63) (k := 5) (x := "script") (CX := fun _ => CX0) (sp := fun w => spR (K w.params) 1 m_law) hn (by decide) hdf ⟨rfl, by decide, by decide⟩ hY F (fun w H a ns hl _ hS => sp_law law H a ns hl hS _) fun _ _ _ _ _ z => z
end Lw

open PySem PySem.W PyProof.Rows
set_option maxRecDepth 100000 in
set_option maxHeartbeats 0 in
theorem PySem.Challenge.cw_wavyrow_k07_longest_told_holds : PySem.Challenge.rw_wavyrow_k07_longest_told.Holds := by
  w_on; o_law; k_head; (case hw => w_witness2)
  k_fill
  refine Lw.walk (l := PySem.Challenge.rw_wavyrow_k07_longest_told) rfl rfl Lw.law_true (fun w h Y => PySem.W.kIn_of Y) ?F
  case F =>
    intro w mg fa h KX G hmg
    refine' Lw.all_mk KX G hmg ?e_refuse_step ?l_refuse_step ?c_refuse_step ?k_refuse_step ?e_tails ?l_tails ?c_tails ?k_tails ?e_longer_first ?l_longer_first ?c_longer_first ?k_longer_first ?e_longest ?l_longest ?c_longest ?k_longest ?e_how_long ?l_how_long ?c_how_long ?k_how_long ?e_law_stir ?l_law_stir ?c_law_stir ?k_law_stir ?e_law_cells ?l_law_cells ?c_law_cells ?k_law_cells ?e_law_row ?l_law_row ?c_law_row ?k_law_row ?e_law_step ?l_law_step ?c_law_step ?k_law_step ?e_law_same ?l_law_same ?c_law_same ?k_law_same ?e_law_due ?l_law_due ?c_law_due ?k_law_due ?e_law ?l_law ?c_law ?k_law   ?nl ?y_bool ?y_int ?y_isinstance ?y_len ?y_list ?y_max ?y_min ?y_range ?y_reversed ?y_str ?y_tuple ?y_zip
    (case e_refuse_step => k_is); (case l_refuse_step => k_is); (case c_refuse_step => k_is); (case k_refuse_step => k_is)
    (case e_tails => k_is); (case l_tails => k_is); (case c_tails => k_is); (case k_tails => k_is)
    (case e_longer_first => k_is); (case l_longer_first => k_is); (case c_longer_first => k_is); (case k_longer_first => k_is)
    (case e_longest => k_is); (case l_longest => k_is); (case c_longest => k_is); (case k_longest => k_is)
    (case e_how_long => k_is); (case l_how_long => k_is); (case c_how_long => k_is); (case k_how_long => k_is)
    (case e_law_stir => k_is); (case l_law_stir => k_is); (case c_law_stir => k_is); (case k_law_stir => k_is)
    (case e_law_cells => k_is); (case l_law_cells => k_is); (case c_law_cells => k_is); (case k_law_cells => k_is)
    (case e_law_row => k_is); (case l_law_row => k_is); (case c_law_row => k_is); (case k_law_row => k_is)
    (case e_law_step => k_is); (case l_law_step => k_is); (case c_law_step => k_is); (case k_law_step => k_is)
    (case e_law_same => k_is); (case l_law_same => k_is); (case c_law_same => k_is); (case k_law_same => k_is)
    (case e_law_due => k_is); (case l_law_due => k_is); (case c_law_due => k_is); (case k_law_due => k_is)
    (case e_law => k_is); (case l_law => k_is); (case c_law => k_is); (case k_law => k_is)
    (case nl => exact L2.NoL.of (by rfl))
    (case y_bool => k_is)
    (case y_int => k_is)
    (case y_isinstance => k_is)
    (case y_len => k_is)
    (case y_list => k_is)
    (case y_max => k_is)
    (case y_min => k_is)
    (case y_range => k_is)
    (case y_reversed => k_is)
    (case y_str => k_is)
    (case y_tuple => k_is)
    (case y_zip => k_is)
