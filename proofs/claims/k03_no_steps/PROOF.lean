import PyProof.Rows.All
import Wide.All
import OpenK.AllK
import Wide.FinOn
import Lean
import PyProof.EqAt
import PyProof.EqKinds
import PyProof.TupleCall
import PyProof.NeKinds
import PySem.Challenge.RW_wavyrow_k03_no_steps
set_option Elab.async false
set_option linter.all false
set_option maxRecDepth 100000
namespace L2
open PySem PySem.Spec PyProof.Rows

noncomputable abbrev Key := Sum Int Str
noncomputable def keyIs : Key → Value → Bool
  | .inl k, v => Value.isInt k v
  | .inr x, v => Value.isStrOf x v
noncomputable def keyH (w : World) : Key → Int
  | .inl k => hashInt k
  | .inr x => hashStr w x
theorem keyIs_shape : ∀ {k : Key} {v : Value}, keyIs k v = true → (∃ i t, k = Sum.inl i ∧ v = Value.int i t) ∨ (∃ x t, k = Sum.inr x ∧ v = Value.str x t)
  | .inl i, v, h => by
    obtain ⟨t, e⟩ := Value.isInt_shape (k := i) (v := v) h
    exact .inl ⟨i, t, rfl, e⟩
  | .inr x, v, h => by
    obtain ⟨t, e⟩ := Value.isStrOf_shape (x := x) (v := v) h
    exact .inr ⟨x, t, rfl, e⟩
theorem keyIs_str (x : Str) (t : Tok) : keyIs (.inr x) (.str x t) = true := by simp [keyIs, Value.isStrOf]
theorem key_ll (a b : Int) : decide ((Sum.inl a : Key) = Sum.inl b) = (a == b) := by
  by_cases e : a = b
  · subst e; simp
  · have h : ¬ (Sum.inl a : Key) = Sum.inl b := fun q => e (Sum.inl.inj q)
    rw [decide_eq_false h]
    exact (beq_eq_false_iff_ne.mpr e).symm
theorem key_rr (a b : Str) : decide ((Sum.inr a : Key) = Sum.inr b) = decide (a = b) := by
  by_cases e : a = b
  · subst e; simp
  · have h : ¬ (Sum.inr a : Key) = Sum.inr b := fun q => e (Sum.inr.inj q)
    rw [decide_eq_false h, decide_eq_false e]
theorem key_lr (a : Int) (b : Str) : decide ((Sum.inl a : Key) = Sum.inr b) = false := decide_eq_false (fun q => nomatch q)
theorem key_rl (a : Str) (b : Int) : decide ((Sum.inr a : Key) = Sum.inl b) = false := decide_eq_false (fun q => nomatch q)

noncomputable def mixKind (prog : Program) (w : World) : PySem.KeyKind prog w Key where
  is := keyIs
  hash := keyH w
  inj := fun v a b ha hb => by
    rcases keyIs_shape ha with ⟨i, t, rfl, rfl⟩ | ⟨x, t, rfl, rfl⟩
    · rcases keyIs_shape hb with ⟨j, u, rfl, e⟩ | ⟨y, u, rfl, e⟩
      · injection e with e1 _; rw [e1]
      · exact nomatch e
    · rcases keyIs_shape hb with ⟨j, u, rfl, e⟩ | ⟨y, u, rfl, e⟩
      · exact nomatch e
      · injection e with e1 _; rw [e1]
  byValue := fun k v h => by
    rcases keyIs_shape h with ⟨i, t, rfl, rfl⟩ | ⟨x, t, rfl, rfl⟩ <;> rfl
  pyHash := fun hv h => by
    rcases keyIs_shape hv with ⟨i, t, rfl, rfl⟩ | ⟨x, t, rfl, rfl⟩
    · exact wpAny_pyHash_int h
    · exact wpAny_pyHash_str h
  eqBool := fun hu hv h => by
    rcases keyIs_shape hu with ⟨i, t, rfl, rfl⟩ | ⟨x, t, rfl, rfl⟩
    · rcases keyIs_shape hv with ⟨j, u, rfl, rfl⟩ | ⟨y, u, rfl, rfl⟩
      · rw [key_ll] at h; exact wpAny_eqBool_int h
      · rw [key_lr] at h; exact SeqAt.EqAt.int_str i t y u _ _ _ _ h
    · rcases keyIs_shape hv with ⟨j, u, rfl, rfl⟩ | ⟨y, u, rfl, rfl⟩
      · rw [key_rl] at h; exact SeqAt.EqAt.str_int x t j u _ _ _ _ h
      · rw [key_rr] at h; exact wpAny_eqBool_str h
  «strs» := fun k x t v h => by
    rcases keyIs_shape h with ⟨i, u, rfl, e⟩ | ⟨y, u, rfl, e⟩
    · exact nomatch e
    · injection e with e1 _
      subst e1
      cases v <;> rfl

theorem mixKind_str (prog : Program) (w : World) (x : Str) (t : Tok) : (mixKind prog w).is (.inr x) (.str x t) = true := keyIs_str x t
end L2

namespace L2
open PySem PySem.Spec PyProof.Rows

inductive V where
  | non | bl (b : Bool) | int (i : Int) | str (x : Str) | byt (b : Array UInt8) | flt (b : UInt64) | ref (a : Addr) | ty (n : String)
  deriving DecidableEq

noncomputable def RelV : V → Value → Prop
  | .non, u => u = Value.none
  | .bl b, u => u = Value.bool b
  | .int i, u => ∃ t, u = Value.int i t
  | .str x, u => ∃ t, u = Value.str x t
  | .byt b, u => ∃ t, u = Value.bytes b t
  | .flt b, u => ∃ t, u = Value.float b t
  | .ref a, u => u = Value.ref a
  | .ty n, u => u = Value.type n

noncomputable abbrev Vals : List V → List Value → Prop := Paired RelV
theorem Vals.length {xs : List V} {us : List Value} (r : Vals xs us) : xs.length = us.length := Paired.length r
theorem Vals.get : ∀ {xs : List V} {us : List Value} {i : Nat} {x : V}, Vals xs us → xs[i]? = some x → ∃ u, us[i]? = some u ∧ RelV x u
  | _, _, _, _, .nil, e => by simp at e
  | _, _, 0, _, .cons r _, e => by simp at e; subst e; exact ⟨_, rfl, r⟩
  | _, _, i + 1, x, .cons _ t, e => by
    obtain ⟨u, h1, h2⟩ := Vals.get (i := i) (x := x) t (by simpa using e)
    exact ⟨u, by simpa using h1, h2⟩
theorem Vals.set {x : V} {u : Value} (r : RelV x u) : ∀ {xs : List V} {us : List Value} (i : Nat), Vals xs us → Vals (xs.set i x) (us.set i u)
  | _, _, _, .nil => .nil
  | _, _, 0, .cons _ t => .cons r t
  | _, _, i + 1, .cons q t => .cons q (Vals.set r i t)
theorem Vals.append : ∀ {xs ys : List V} {us ws : List Value}, Vals xs us → Vals ys ws → Vals (xs ++ ys) (us ++ ws)
  | _, _, _, _, .nil, s => s
  | _, _, _, _, .cons r t, s => .cons r (Vals.append t s)
theorem Vals.take : ∀ {xs : List V} {us : List Value} (n : Nat), Vals xs us → Vals (xs.take n) (us.take n)
  | _, _, 0, _ => .nil
  | _, _, _ + 1, .nil => .nil
  | _, _, n + 1, .cons r t => .cons r (Vals.take n t)
theorem Vals.drop : ∀ {xs : List V} {us : List Value} (n : Nat), Vals xs us → Vals (xs.drop n) (us.drop n)
  | _, _, 0, r => r
  | _, _, _ + 1, .nil => .nil
  | _, _, n + 1, .cons _ t => Vals.drop n t
noncomputable def RelO : Option V → Option Value → Prop
  | some v, some u => RelV v u
  | none, none => True
  | _, _ => False
noncomputable def KV {κ : Type} : List (κ × V) → List (κ × Value) → Prop := Paired fun (p : κ × V) (q : κ × Value) => p.1 = q.1 ∧ RelV p.2 q.2

noncomputable def kV : Key → V
  | .inl i => .int i
  | .inr x => .str x

inductive HO where
  | lst (xs : List V)
  | tup (xs : List V)
  | dK (kvs : List (Key × V)) | dT (kvs : List (List Key × V))
  | set (S : Int → Bool) (n : Nat)
  | ins (C dx : Addr) (fs : List (Str × V))
  | own (x : Addr)
  | xd (fs : List (Str × V))
  | met (f x : Addr)
  | rng (lo hi : Int)
  | frz (o : Obj) (u : HO)
  | tbl (ps : Array Value)
  | ext (φ : Heap → Prop)

noncomputable abbrev Hp := Addr → Option HO
noncomputable def upd (H : Hp) (a : Addr) (o : HO) : Hp := fun b => if b = a then some o else H b
theorem upd_same {H : Hp} {a : Addr} {o : HO} : upd H a o a = some o := by unfold upd; rw [if_pos rfl]
theorem upd_ne {H : Hp} {a b : Addr} {o : HO} (h : b ≠ a) : upd H a o b = H b := by unfold upd; rw [if_neg h]
theorem ne_of_none {H : Hp} {a b : Addr} {o : HO} (h : H a = some o) (h' : H b = none) : a ≠ b := by
  intro e; subst e; rw [h] at h'; cases h'

section
variable (P : Program) (w : World)
noncomputable def ObjOk (H : Hp) (h : Heap) (a : Addr) : HO → Prop
  | .lst xs => xs.length ≤ sizeLine ∧ ∃ (its : List Value) (n : Nat), Vals xs its ∧ h.get? a = some { cls := .type "list", data := .seq its.toArray n }
  | .tup xs => xs.length ≤ sizeLine ∧ ∃ its : List Value, Vals xs its ∧ IsTup h a its.toArray
  | .dK kvs => kvs.length ≤ sizeLine ∧ (a == sysModules) = false ∧ ∃ vs, KV kvs vs ∧ h.DictOf (mixKind P w) a vs
  | .dT kvs => kvs.length ≤ sizeLine ∧ (a == sysModules) = false ∧ ∃ xs : List (List Key × Addr × Value),
      Paired (fun (p : List Key × V) (q : List Key × Addr × Value) => p.1 = q.1 ∧ H q.2.1 = some (.tup (p.1.map kV)) ∧ RelV p.2 q.2.2) kvs xs ∧
      ∃ o es ep, h.get? a = some o ∧ o.ExactDict ∧ o.data = .dict es ep ∧ es.toList = xs.map (entryOfKey (tupleKind (mixKind P w))) ∧ (xs.map (·.1)).Nodup
  | .set S n => h.SetOf (intKind P w) a S n
  | .ins C dx fs => H dx = some (.own a) ∧ fs.length ≤ 1000 ∧ dx ≠ a ∧ h.get? a = some (PySem.W.instObj C dx) ∧
      ∃ mA, h.Ns1 dx mA ∧ (∀ f, RelO (fs.lookup f) (mA f)) ∧ PySem.Within mA (fs.map (·.1))
  | .own _ => ∃ o, h.get? a = some o
  | .xd fs => ∃ mA, h.Ns1 a mA ∧ ∀ f, RelO (fs.lookup f) (mA f)
  | .rng lo hi => ∃ t u v, h.get? a = some { cls := .type "range", data := .fields #[.int lo t, .int hi u, .int 1 v] }
  | .frz o u => h.get? a = some o ∧ ObjOk H h a u
  | .tbl ps => h.get? a = some { cls := .none, data := .fields ps }
  | .met f x => h.get? a = some (PySem.W.methodObj (.ref f) (.ref x))
  | .ext φ => φ h ∧ (∃ o, h.get? a = some o) ∧ ∀ h1 h2 : Heap, φ h1 → (∀ o, h1.get? a = some o → h2.get? a = some o) → φ h2
noncomputable def HOk (H : Hp) (h : Heap) : Prop := ∀ a o, H a = some o → ObjOk P w H h a o
end

section
variable {P : Program} {w : World} {H H' : Hp} {h h' : Heap} {a : Addr} {o : HO}
theorem ObjOk.lt (x : ObjOk P w H h a o) : a < h.objs.size := by
  cases o with
  | lst xs => obtain ⟨_, _, _, _, e⟩ := x; exact Heap.lt_size e
  | tup xs => obtain ⟨_, _, _, p⟩ := x; exact p.lt
  | dK kvs => obtain ⟨_, _, _, _, o, _, _, e, _⟩ := x; exact Heap.lt_size e
  | dT kvs => obtain ⟨_, _, _, _, o, _, _, e, _⟩ := x; exact Heap.lt_size e
  | set S n => obtain ⟨o, _, _, _, e, _⟩ := x; exact Heap.lt_size e
  | ins C dx fs => obtain ⟨_, _, _, e, _⟩ := x; exact Heap.lt_size e
  | own y => obtain ⟨_, e⟩ := x; exact Heap.lt_size e
  | xd fs => obtain ⟨_, ⟨_, _, _, e, _⟩, _⟩ := x; exact Heap.lt_size e
  | rng lo hi => obtain ⟨_, _, _, e⟩ := x; exact Heap.lt_size e
  | frz ob u => obtain ⟨e, _⟩ := x; exact Heap.lt_size e
  | tbl ps => exact Heap.lt_size (show h.get? a = some _ from x)
  | met f y => exact Heap.lt_size (show h.get? a = some _ from x)
  | ext φ => obtain ⟨_, ⟨_, e⟩, _⟩ := x; exact Heap.lt_size e
theorem Paired.mapP {α β : Type} {F G : α → β → Prop} : ∀ {l₁ : List α} {l₂ : List β}, Paired F l₁ l₂ → (∀ a b, F a b → G a b) → Paired G l₁ l₂
  | _, _, .nil, _ => .nil
  | _, _, .cons r t, f => .cons (f _ _ r) (Paired.mapP t f)
theorem ObjOk.stay (x : ObjOk P w H h a o) (k : ∀ b u, (b = a ∨ H b = some (.own a)) → h.get? b = some u → h'.get? b = some u)
    (ho : ∀ b, H b = some (.own a) → H' b = some (.own a)) (ht : ∀ b xs, H b = some (.tup xs) → H' b = some (.tup xs)) : ObjOk P w H' h' a o := by
  induction o with
  | lst xs => obtain ⟨z, its, n, r, e⟩ := x; exact ⟨z, its, n, r, k _ _ (.inl rfl) e⟩
  | tup xs => obtain ⟨z, its, r, ob, e, c⟩ := x; exact ⟨z, its, r, ob, k _ _ (.inl rfl) e, c⟩
  | dK kvs => obtain ⟨z, y, vs, r, ob, es, ep, e, c⟩ := x; exact ⟨z, y, vs, r, ob, es, ep, k _ _ (.inl rfl) e, c⟩
  | dT kvs =>
    obtain ⟨z, y, xs, r, ob, es, ep, e, c⟩ := x
    exact ⟨z, y, xs, Paired.mapP r fun p q z => ⟨z.1, ht _ _ z.2.1, z.2.2⟩, ob, es, ep, k _ _ (.inl rfl) e, c⟩
  | set S n => obtain ⟨ob, es, ep, t, e, c⟩ := x; exact ⟨ob, es, ep, t, k _ _ (.inl rfl) e, c⟩
  | ins C dx fs =>
    obtain ⟨d, z, ne, e, mA, ⟨od, es, ep, e2, c⟩, r⟩ := x
    exact ⟨ho _ d, z, ne, k _ _ (.inl rfl) e, mA, ⟨od, es, ep, k _ _ (.inr d) e2, c⟩, r⟩
  | own y => obtain ⟨ob, e⟩ := x; exact ⟨ob, k _ _ (.inl rfl) e⟩
  | xd fs => obtain ⟨mA, ⟨od, es, ep, e, c⟩, r⟩ := x; exact ⟨mA, ⟨od, es, ep, k _ _ (.inl rfl) e, c⟩, r⟩
  | rng lo hi => obtain ⟨t, u, v, e⟩ := x; exact ⟨t, u, v, k _ _ (.inl rfl) e⟩
  | frz ob u ih => obtain ⟨e, q⟩ := x; exact ⟨k _ _ (.inl rfl) e, ih q⟩
  | tbl ps =>
    have e : h.get? a = some { cls := .none, data := .fields ps } := x
    show h'.get? a = some { cls := .none, data := .fields ps }
    exact k a _ (.inl rfl) e
  | met f y =>
    have e : h.get? a = some (PySem.W.methodObj (.ref f) (.ref y)) := x
    show h'.get? a = some (PySem.W.methodObj (.ref f) (.ref y))
    exact k a _ (.inl rfl) e
  | ext φ => obtain ⟨p, ⟨o, e⟩, st⟩ := x; exact ⟨st _ _ p fun o q => k _ _ (.inl rfl) q, ⟨o, k _ _ (.inl rfl) e⟩, st⟩
theorem HOk.lt (x : HOk P w H h) (e : H a = some o) : a < h.objs.size := (x a o e).lt
theorem HOk.fresh (x : HOk P w H h) (e : h.objs.size ≤ a) : H a = none := by
  cases q : H a with
  | none => rfl
  | some u => exact absurd (Nat.lt_of_lt_of_le (x.lt q) e) (Nat.lt_irrefl _)
theorem HOk.kept (x : HOk P w H h) (k : ∀ b u, h.get? b = some u → h'.get? b = some u) : HOk P w H h' := fun a o e =>
  (x a o e).stay (fun b u _ q => k b u q) (fun _ q => q) fun _ _ q => q
theorem HOk.laid (x : HOk P w H h) (k : ∀ b u, h.get? b = some u → h'.get? b = some u) (hp : h.objs.size ≤ a) (new : ObjOk P w (upd H a o) h' a o) : HOk P w (upd H a o) h' := fun b u e => by
  have hn := x.fresh hp
  by_cases hb : b = a
  · subst hb; rw [upd_same] at e; cases e; exact new
  · rw [upd_ne hb] at e
    exact (x b u e).stay (fun c v _ q => k c v q) (fun c q => by rw [upd_ne (ne_of_none q hn)]; exact q) fun c xs q => by rw [upd_ne (ne_of_none q hn)]; exact q
end

noncomputable def Rd (H : Hp) (a : Addr) (u : HO) : Prop := H a = some u ∨ ∃ o, H a = some (.frz o u)
theorem Rd.of {H : Hp} {a : Addr} {u : HO} (h : H a = some u) : Rd H a u := .inl h
theorem Rd.ok {P : Program} {w : World} {H : Hp} {h : Heap} {a : Addr} {u : HO} (r : Rd H a u) (x : HOk P w H h) : ObjOk P w H h a u := by
  rcases r with r | ⟨o, r⟩
  · exact x a u r
  · obtain ⟨_, q⟩ := x a _ r
    exact q
noncomputable def Mut : Option HO → Prop
  | some (.lst _) => True
  | some (.dK _) => True
  | some (.dT _) => True
  | some (.set _ _) => True
  | some (.ins _ _ _) => True
  | some (.ext _) => True
  | _ => False
section
variable {P : Program} {w : World} {H : Hp} {h h' : Heap} {x e : Addr} {o' : HO}
theorem HOk.write (ok : HOk P w H h) (mu : Mut (H x)) (he : e = x ∨ H e = some (.own x)) (k : ∀ b u, b ≠ e → h.get? b = some u → h'.get? b = some u) (heo : ∃ u, h'.get? e = some u)
    (new : ObjOk P w (upd H x o') h' x o') : HOk P w (upd H x o') h' := fun b u q => by
  have nown : ∀ c y, H c = some (.own y) → c ≠ x := fun c y r z => by subst z; rw [r] at mu; exact mu
  have ntup : ∀ c xs, H c = some (.tup xs) → c ≠ x := fun c xs r z => by subst z; rw [r] at mu; exact mu
  by_cases hb : b = x
  · subst hb; rw [upd_same] at q; cases q; exact new
  · rw [upd_ne hb] at q
    by_cases hbe : b = e
    · have q' : H b = some (.own x) := by
        rcases he with z | z
        · exact absurd (hbe.trans z) hb
        · rw [hbe]; exact z
      rw [q] at q'; cases q'
      obtain ⟨v, hv⟩ := heo
      exact ⟨v, by rw [hbe]; exact hv⟩
    · refine (ok b u q).stay (fun c v hc r => k c v ?_ r) (fun c r => by rw [upd_ne (nown c b r)]; exact r) fun c xs r => by rw [upd_ne (ntup c xs r)]; exact r
      rcases hc with rfl | hc
      · exact hbe
      · rintro rfl
        rcases he with z | z
        · exact nown c b hc z
        · rw [hc] at z; cases z; exact hb rfl
end

structure Un (fs ex : List Addr) (H H' : Hp) (h h' : Heap) : Prop where
  keep : ∀ b o, h.get? b = some o → H b = none → b ∉ fs → b ∉ ex → h'.get? b = some o
  slot : ∀ b o, h.get? b = some o → H b = none → b ∈ fs → b ∉ ex → ∃ sl, h'.get? b = some { o with slots := sl }
  free : ∀ b o, h.get? b = some o → H b = none → b ∉ ex → H' b = none
  there : ∀ b o, h.get? b = some o → b ∉ ex → ∃ o', h'.get? b = some o'
  tups : ∀ b xs, H b = some (.tup xs) → H' b = some (.tup xs)
  frzs : ∀ b o u, H b = some (.frz o u) → H' b = some (.frz o u)
  tbls : ∀ b ps, H b = some (.tbl ps) → ∃ more, H' b = some (.tbl (ps ++ more))
section
variable {fs fs' ex ex' : List Addr} {H H1 H2 : Hp} {h h1 h2 h' : Heap} {a x e : Addr} {o : HO}
theorem Un.any (u : Un fs ex H H1 h h1) {b : Addr} {ob : Obj} (q : h.get? b = some ob) (n : H b = none) (hx : b ∉ ex) : ∃ sl, h1.get? b = some { ob with slots := sl } := by
  by_cases hb : b ∈ fs
  · exact u.slot b ob q n hb hx
  · exact ⟨ob.slots, u.keep b ob q n hb hx⟩
theorem Un.trans (a : Un fs ex H H1 h h1) (b : Un fs ex H1 H2 h1 h2) : Un fs ex H H2 h h2 where
  keep := fun c ob q n hc hx => b.keep c ob (a.keep c ob q n hc hx) (a.free c ob q n hx) hc hx
  slot := fun c ob q n hc hx => by
    obtain ⟨sl, e1⟩ := a.slot c ob q n hc hx
    obtain ⟨sl', e2⟩ := b.slot c _ e1 (a.free c ob q n hx) hc hx
    exact ⟨sl', e2⟩
  free := fun c ob q n hx => by
    obtain ⟨o', e1⟩ := a.there c ob q hx
    exact b.free c o' e1 (a.free c ob q n hx) hx
  there := fun c ob q hx => by
    obtain ⟨o', e1⟩ := a.there c ob q hx
    exact b.there c o' e1 hx
  tups := fun c xs q => b.tups c xs (a.tups c xs q)
  frzs := fun c ob xs q => b.frzs c ob xs (a.frzs c ob xs q)
  tbls := fun c ps q => by
    obtain ⟨m1, e1⟩ := a.tbls c ps q
    obtain ⟨m2, e2⟩ := b.tbls c _ e1
    exact ⟨m1 ++ m2, by rw [e2, Array.append_assoc]⟩
theorem Un.kept (k : ∀ b u, h.get? b = some u → h'.get? b = some u) : Un fs ex H H h h' :=
  ⟨fun b ob q _ _ _ => k b ob q, fun b ob q _ _ _ => ⟨ob.slots, k b ob q⟩, fun _ _ _ n _ => n, fun b ob q _ => ⟨ob, k b ob q⟩, fun _ _ q => q, fun _ _ _ q => q, fun _ ps q => ⟨#[], by rw [q]; simp⟩⟩
theorem Un.refl : Un fs ex H H h h := Un.kept fun _ _ q => q
theorem Un.laid (k : ∀ b u, h.get? b = some u → h'.get? b = some u) (hp : h.objs.size ≤ a) (hn : H a = none) : Un fs ex H (upd H a o) h h' where
  keep := fun b u q _ _ _ => k b u q
  slot := fun b u q _ _ _ => ⟨u.slots, k b u q⟩
  free := fun b u q n _ => by rw [upd_ne (Nat.ne_of_lt (Nat.lt_of_lt_of_le (Heap.lt_size q) hp))]; exact n
  there := fun b u q _ => ⟨u, k b u q⟩
  tups := fun b xs q => by rw [upd_ne (ne_of_none q hn)]; exact q
  frzs := fun b u xs q => by rw [upd_ne (ne_of_none q hn)]; exact q
  tbls := fun b ps q => ⟨#[], by rw [upd_ne (ne_of_none q hn), q]; simp⟩
theorem Un.write (mu : Mut (H x)) (he : e = x ∨ H e = some (.own x)) (k : ∀ b u, b ≠ e → h.get? b = some u → h'.get? b = some u) (heo : ∃ u, h'.get? e = some u) : Un fs ex H (upd H x o) h h' := by
  have hx : ∀ b, H b = none → b ≠ x := fun b n z => by subst z; rw [n] at mu; exact mu
  have hb : ∀ b, H b = none → b ≠ e := fun b n z => by
    subst z
    rcases he with r | r
    · exact hx b n r
    · rw [n] at r; cases r
  have hm : ∀ b u, H b = some u → ¬ Mut (some u) → b ≠ x := fun b u q nm z => by subst z; rw [q] at mu; exact nm mu
  refine ⟨fun b u q n _ _ => k b u (hb b n) q, fun b u q n _ _ => ⟨u.slots, k b u (hb b n) q⟩, fun b u q n _ => by rw [upd_ne (hx b n)]; exact n, fun b u q _ => ?_,
    fun b xs q => by rw [upd_ne (hm b _ q fun z => z)]; exact q, fun b u xs q => by rw [upd_ne (hm b _ q fun z => z)]; exact q, fun b ps q => ⟨#[], by rw [upd_ne (hm b _ q fun z => z), q]; simp⟩⟩
  by_cases hbe : b = e
  · subst hbe; exact heo
  · exact ⟨u, k b u hbe q⟩
theorem Un.mono (u : Un fs ex H H1 h h1) (hs : ∀ b ∈ fs, b ∈ fs') (hx : ∀ b ∈ ex, b ∈ ex') : Un fs' ex' H H1 h h1 :=
  ⟨fun b ob q n hb he => u.keep b ob q n (fun z => hb (hs b z)) fun z => he (hx b z), fun _ _ q n _ he => u.any q n fun z => he (hx _ z), fun b ob q n he => u.free b ob q n fun z => he (hx b z), fun b ob q he => u.there b ob q fun z => he (hx b z), u.tups, u.frzs, u.tbls⟩
end

noncomputable def trk (h : Heap) (H : Hp) : List Addr := (List.range h.objs.size).filter fun a => (H a).isSome
noncomputable def hidT (h : Heap) (H : Hp) : Heap := PySem.W.hideAll h (trk h H)
theorem hidT_size (h : Heap) (H : Hp) : (hidT h H).objs.size = h.objs.size := PySem.W.hideAll_size _ _
theorem hidT_get {h : Heap} {H : Hp} {b : Addr} {o : Obj} (e : h.get? b = some o) (n : H b = none) : (hidT h H).get? b = some o :=
  PySem.W.hideAll_get _ e fun hm => by
    have q : (H b).isSome = true := (List.mem_filter.mp hm).2
    rw [n] at q; simp at q
theorem of_hidT {h : Heap} {H : Hp} {b : Addr} {o : Obj} (e : (hidT h H).get? b = some o) : h.get? b = some o ∧ H b = none := by
  have e' : h.get? b = some o := PySem.W.of_hideAll (trk h H) e
  refine ⟨e', ?_⟩
  cases q : H b with
  | none => rfl
  | some x =>
    have hm : b ∈ trk h H := List.mem_filter.mpr ⟨List.mem_range.mpr (Heap.lt_size e'), by simp [q]⟩
    have z : (hidT h H).get? b = none := PySem.W.hideAll_none (trk h H) hm
    rw [z] at e; cases e

noncomputable def allNews (g h : Heap) (L : Addr) : List (Addr × Obj) := (List.range h.objs.size).filterMap fun a => if a = L ∨ (g.get? a).isSome = true then none else (h.get? a).map fun o => (a, o)
noncomputable def rest (g h : Heap) (L d : Addr) : List (Addr × Obj) := (allNews g h L).filter fun p => decide (p.1 ≠ d)
end L2

namespace L2
open PySem PySem.Spec PyProof.Rows

structure Mod (K : PySem.W.Frag) (mg : Str → Option Value) (base : Heap) : Prop where
  kin : K.In base
  glob : base.Ns mainGlobals mg
  blt : ∃ mb, base.Ns builtinsNs mb ∧ ∀ x : Str, x ≠ "__name__" → mb x = bootBuiltins x
  nolimit : base.NoLimit

structure Cx where
  prog : Program
  w : World
  K : PySem.W.Frag
  mg : Str → Option Value
  base : Heap
  A : Around
  N : List Str
  s₀ : Shared
  H₀ : Hp
  env : Env
  outer : List Env
  stack : List Env
  ex : List Addr
  fn : Str → Bool
  calm : Bool
  pn : List (Addr × Obj)
  xe : Value → Shared → Prop
noncomputable def frs (l : List Env) : List Addr := l.filterMap (·.frame)
noncomputable abbrev Cx.fs (X : Cx) : List Addr := frs X.outer

noncomputable def Vis (sc : Scope) (x : Str) : Prop := sc.names.lookup x = some .local ∨ sc.names.lookup x = some .cell ∨ sc.names.lookup x = some .free
noncomputable def Loc (sc : Scope) (x : Str) : Prop := sc.names.lookup x = some .local ∨ sc.names.lookup x = some .cell
noncomputable def Look (env : Env) (h : Heap) (m : Str → Option Value) (x : Str) (u : Value) : Prop :=
  (env.kindOf x = some .local ∧ m x = some u) ∨ ((env.kindOf x = some .cell ∨ env.kindOf x = some .free) ∧ ∃ c, env.cells.lookup x = some c ∧ h.IsCell c (some u))

structure Cx.Ok (X : Cx) : Prop where
  mod : Mod X.K X.mg X.base
  kind : X.env.scope.kind = .function
  glob : X.env.globals = mainGlobals
  blt : X.env.builtins = builtinsNs
  above : X.s₀.heap.objs.size ≤ X.env.locals
  inj : ∀ x y c, X.env.cells.lookup x = some c → X.env.cells.lookup y = some c → x = y
  has : ∀ x, (X.env.kindOf x = some .cell ∨ X.env.kindOf x = some .free) → ∃ c, X.env.cells.lookup x = some c
  cab : ∀ x c, X.fn x = true → X.env.cells.lookup x = some c → X.s₀.heap.objs.size ≤ c
  hd : X.calm = true → X.A.handled = none
  frames : X.A.frames = some X.stack
  stk : X.stack = X.outer ∨ (X.stack = X.env :: X.outer ∧ X.env.frame = some X.env.locals)
  exf : ∀ b ∈ X.ex, b ≠ X.env.locals ∧ ∀ x c, X.env.cells.lookup x = some c → c ≠ b
  bs : ∀ b o, X.base.get? b = some o → X.s₀.heap.get? b = some o ∧ X.H₀ b = none
  bsz : X.base.objs.size ≤ X.s₀.heap.objs.size
  noex : ∀ b o, X.base.get? b = some o → b ∉ X.ex
  exfs : ∀ b ∈ X.ex, b ∉ X.fs
  funs : X.s₀.heap.FunFrames X.base X.outer
  frf : ∀ b ∈ X.fs, X.H₀ b = none

structure Inv (X : Cx) (pins : List (Addr × Obj)) (σ : List (Option V)) (H : Hp) (s : Shared) : Prop where
  ok : X.Ok
  os : s.os = X.s₀.os
  bare : AllBare s.gens
  base : Un X.fs X.ex X.H₀ H X.s₀.heap s.heap
  loc : ∃ m, s.heap.Ns X.env.locals m ∧ ∀ (i : Nat) (x : Str) (v : V), X.N[i]? = some x → σ[i]? = some (some v) → Vis X.env.scope x → ∃ u, RelV v u ∧ Look X.env s.heap m x u
  cell : ∀ x c, X.env.cells.lookup x = some c → ∃ v, s.heap.IsCell c v
  free : H X.env.locals = none
  freeC : ∀ x c, X.env.cells.lookup x = some c → H c = none
  pin : ∀ p ∈ X.pn ++ pins, s.heap.get? p.1 = some p.2 ∧ H p.1 = none ∧ p.1 ≠ X.env.locals ∧ p.1 ∉ X.fs ∧ ∀ v, p.2.data ≠ .cell v
  hok : HOk X.prog X.w H s.heap
  len : σ.length = X.N.length

section
variable {X : Cx} {pins : List (Addr × Obj)} {σ : List (Option V)} {H H' : Hp} {s : Shared} {h' : Heap}

theorem Cx.Ok.nofr (ok : X.Ok) {b : Addr} {o : Obj} (e : X.base.get? b = some o) : b ∉ X.fs := fun hb => by
  have := (ok.funs.mem hb).1
  rw [e] at this; cases this
theorem Inv.bs (I : Inv X pins σ H s) : ∀ b o, X.base.get? b = some o → s.heap.get? b = some o ∧ H b = none := fun b o e =>
  ⟨I.base.keep b o (I.ok.bs b o e).1 (I.ok.bs b o e).2 (I.ok.nofr e) (I.ok.noex b o e), I.base.free b o (I.ok.bs b o e).1 (I.ok.bs b o e).2 (I.ok.noex b o e)⟩
theorem Inv.bk (I : Inv X pins σ H s) : ∀ b o, X.base.get? b = some o → s.heap.get? b = some o := fun b o e => (I.bs b o e).1
theorem Inv.mod (I : Inv X pins σ H s) : Mod X.K X.mg X.base := I.ok.mod
theorem Inv.kIn (I : Inv X pins σ H s) : X.K.In s.heap := I.ok.mod.kin.keeps I.bk
theorem Inv.nolimit (I : Inv X pins σ H s) : s.heap.NoLimit := I.ok.mod.nolimit.keeps I.bk
theorem Inv.fr (I : Inv X pins σ H s) : ∃ m, Fr X.base X.env.locals s.heap m :=
  let ⟨m, hn, _⟩ := I.loc
  ⟨m, hn, I.bk, Nat.le_trans I.ok.bsz I.ok.above⟩
theorem Inv.lt (I : Inv X pins σ H s) : X.env.locals < s.heap.objs.size := let ⟨_, hn, _⟩ := I.loc; hn.lt
theorem Inv.sz (I : Inv X pins σ H s) : X.s₀.heap.objs.size ≤ s.heap.objs.size := Nat.le_trans I.ok.above (Nat.le_of_lt I.lt)
theorem Inv.nofs (I : Inv X pins σ H s) {a : Addr} (h : s.heap.objs.size ≤ a) : a ∉ X.fs := fun hb => by
  obtain ⟨_, o, ho, _⟩ := I.ok.funs.mem hb
  exact absurd (Nat.lt_of_lt_of_le (Heap.lt_size ho) (Nat.le_trans I.sz h)) (Nat.lt_irrefl _)
theorem Inv.cne (I : Inv X pins σ H s) : ∀ x c, X.env.cells.lookup x = some c → c ≠ X.env.locals := fun x c e z => by
  obtain ⟨v, o, ho, hd⟩ := I.cell x c e
  obtain ⟨m, ⟨o', es, ep, ho', hd', _⟩, _⟩ := I.loc
  rw [z, ho'] at ho; cases ho; rw [hd'] at hd; cases hd
theorem Inv.funs (I : Inv X pins σ H s) : s.heap.FunFrames X.base X.outer := by
  have all : ∀ (l : List Env), (∀ b ∈ frs l, b ∈ X.fs) → X.s₀.heap.FunFrames X.base l → s.heap.FunFrames X.base l := by
    intro l
    induction l with
    | nil => intro _ _; trivial
    | cons env r ih =>
      intro hs hl
      obtain ⟨hk, ⟨L, o, hf, hn, ho, hd⟩, hr⟩ := hl
      have hL : L ∈ X.fs := hs L (by unfold frs; rw [List.filterMap_cons, hf]; exact List.mem_cons_self)
      obtain ⟨sl, e⟩ := I.base.slot L o ho (I.ok.frf L hL) hL fun z => I.ok.exfs L z hL
      exact ⟨hk, ⟨L, _, hf, hn, e, hd⟩, ih (fun b hb => hs b (by unfold frs; rw [List.filterMap_cons, hf]; exact List.mem_cons_of_mem _ hb)) hr⟩
  exact all X.outer (fun _ hb => hb) I.ok.funs

theorem Inv.stack (I : Inv X pins σ H s) : s.heap.FunFrames X.base X.stack := by
  rcases I.ok.stk with e | ⟨e, hf⟩
  · rw [e]; exact I.funs
  · rw [e]
    obtain ⟨m, hn, _⟩ := I.loc
    refine .cons (by rw [I.ok.kind]; decide) hf hn ?_ I.funs
    exact Heap.get?_none_of_le (Nat.le_trans I.ok.bsz I.ok.above)
theorem Inv.stkSub (I : Inv X pins σ H s) : ∀ b ∈ frs X.stack, b ∈ X.env.locals :: X.fs := fun b hb => by
  rcases I.ok.stk with e | ⟨e, hf⟩
  · rw [e] at hb; exact List.mem_cons_of_mem _ hb
  · rw [e] at hb
    unfold frs at hb
    rw [List.filterMap_cons, hf] at hb
    exact hb
theorem Inv.stkFree (I : Inv X pins σ H s) : ∀ b ∈ frs X.stack, H b = none := fun b hb => by
  rcases List.mem_cons.mp (I.stkSub b hb) with e | hb
  · rw [e]; exact I.free
  · obtain ⟨_, o, ho, _⟩ := I.ok.funs.mem hb
    exact I.base.free b o ho (I.ok.frf b hb) fun z => I.ok.exfs b z hb

theorem Inv.step {g' : Array GenState} {t' : Nat} {d' : Drawn} {ch : List Addr} (I : Inv X pins σ H s)
    (hch : ∀ b ∈ ch, (b ∈ X.ex ∨ X.s₀.heap.objs.size ≤ b) ∧ b ≠ X.env.locals ∧ (∀ x c, X.env.cells.lookup x = some c → c ≠ b) ∧ ∀ p ∈ X.pn ++ pins, p.1 ≠ b)
    (keep : ∀ b o, b ≠ X.env.locals → b ∉ X.fs → b ∉ ch → s.heap.get? b = some o → H b = none → h'.get? b = some o)
    (slot : ∀ b o, b ≠ X.env.locals → b ∈ X.fs → b ∉ ch → s.heap.get? b = some o → H b = none → ∃ sl, h'.get? b = some { o with slots := sl }) (free : ∀ b o, b ∉ ch → s.heap.get? b = some o → H b = none → H' b = none)
    (there : ∀ b o, b ∉ ch → s.heap.get? b = some o → ∃ o', h'.get? b = some o')
    (tups : ∀ b xs, H b = some (.tup xs) → H' b = some (.tup xs)) (frzs : ∀ b o u, H b = some (.frz o u) → H' b = some (.frz o u)) (tbls : ∀ b ps, H b = some (.tbl ps) → ∃ more, H' b = some (.tbl (ps ++ more)))
    (ns : ∀ m, s.heap.Ns X.env.locals m → h'.Ns X.env.locals m) (hok : HOk X.prog X.w H' h') (hg : AllBare g') :
    Inv X pins σ H' { s with heap := h', gens := g', drawn := d', toks := t' } := by
  have neL : ∀ b o, X.s₀.heap.get? b = some o → b ≠ X.env.locals := fun b o e => Nat.ne_of_lt (Nat.lt_of_lt_of_le (Heap.lt_size e) I.ok.above)
  have neC : ∀ b o, X.s₀.heap.get? b = some o → b ∉ X.ex → b ∉ ch := fun b o e hx hb => by
    rcases (hch b hb).1 with z | z
    · exact hx z
    · exact absurd (Nat.lt_of_lt_of_le (Heap.lt_size e) z) (Nat.lt_irrefl _)
  have cellK : ∀ x c, X.env.cells.lookup x = some c → ∀ v, s.heap.IsCell c v → h'.IsCell c v := fun x c e v hpat => by
    obtain ⟨o, ho, hd⟩ := hpat
    have nch : c ∉ ch := fun z => (hch c z).2.2.1 x c e rfl
    by_cases hc : c ∈ X.fs
    · obtain ⟨sl, q⟩ := slot c o (I.cne x c e) hc nch ho (I.freeC x c e)
      exact ⟨_, q, hd⟩
    · exact ⟨o, keep c o (I.cne x c e) hc nch ho (I.freeC x c e), hd⟩
  refine ⟨I.ok, I.os, hg, ⟨fun b o e n hb hx => ?_, fun b o e n hb hx => ?_, fun b o e n hx => ?_, fun b o e hx => ?_, fun b xs e => tups b xs (I.base.tups b xs e), fun b o xs e => frzs b o xs (I.base.frzs b o xs e), fun b ps e => ?_⟩, ?_, fun x c e => ?_, ?_, fun x c e => ?_, fun p hp => ?_, hok, I.len⟩
  · exact keep b o (neL b o e) hb (neC b o e hx) (I.base.keep b o e n hb hx) (I.base.free b o e n hx)
  · obtain ⟨sl, e1⟩ := I.base.slot b o e n hb hx
    obtain ⟨sl', e2⟩ := slot b _ (neL b o e) hb (neC b o e hx) e1 (I.base.free b o e n hx)
    exact ⟨sl', e2⟩
  · obtain ⟨o', e1⟩ := I.base.there b o e hx
    exact free b o' (neC b o e hx) e1 (I.base.free b o e n hx)
  · obtain ⟨o', e1⟩ := I.base.there b o e hx
    exact there b o' (neC b o e hx) e1
  · obtain ⟨m1, e1⟩ := I.base.tbls b ps e
    obtain ⟨m2, e2⟩ := tbls b _ e1
    exact ⟨m1 ++ m2, by rw [e2, Array.append_assoc]⟩
  · obtain ⟨m, hn, hl⟩ := I.loc
    refine ⟨m, ns m hn, fun i x v e1 e2 e3 => ?_⟩
    obtain ⟨u, r, l⟩ := hl i x v e1 e2 e3
    refine ⟨u, r, ?_⟩
    rcases l with l | ⟨k, c, e, z⟩
    · exact .inl l
    · exact .inr ⟨k, c, e, cellK x c e _ z⟩
  · obtain ⟨v, z⟩ := I.cell x c e
    exact ⟨v, cellK x c e v z⟩
  · obtain ⟨m, ⟨o, _, _, ho, _⟩, _⟩ := I.loc
    exact free _ o (fun z => (hch _ z).2.1 rfl) ho I.free
  · obtain ⟨v, o, ho, hd⟩ := I.cell x c e
    exact free c o (fun z => (hch c z).2.2.1 x c e rfl) ho (I.freeC x c e)
  · obtain ⟨e, n, ne, nf, d⟩ := I.pin p hp
    have nch : p.1 ∉ ch := fun z => (hch p.1 z).2.2.2 p hp rfl
    exact ⟨keep p.1 p.2 ne nf nch e n, free p.1 p.2 nch e n, ne, nf, d⟩
theorem Inv.un {t' : Nat} (I : Inv X pins σ H s) (u : Un X.fs [] H H' s.heap h') (hok : HOk X.prog X.w H' h') : Inv X pins σ H' { s with heap := h', toks := t' } := by
  obtain ⟨m, ⟨o, es, ep, ho, r⟩, _⟩ := id I.loc
  obtain ⟨sl, hL⟩ := u.any ho I.free (by simp)
  exact I.step (g' := s.gens) (d' := s.drawn) (ch := []) (fun _ z => nomatch z) (fun b o _ hb _ e n => u.keep b o e n hb (by simp)) (fun b o _ hb _ e n => u.slot b o e n hb (by simp)) (fun b o _ e n => u.free b o e n (by simp)) (fun b o _ e => u.there b o e (by simp)) u.tups u.frzs u.tbls (fun m' hm => by
    obtain ⟨o', es', ep', ho', r'⟩ := hm
    rw [ho] at ho'; cases ho'
    exact ⟨_, es', ep', hL, r'⟩) hok I.bare
theorem Inv.call {g' : Array GenState} {t' : Nat} {d' : Drawn} {ch : List Addr} (I : Inv X pins σ H s) (u : Un (frs X.stack) ch H H' s.heap h') (hok : HOk X.prog X.w H' h') (hg : AllBare g')
    (hch : ∀ b ∈ ch, (b ∈ X.ex ∨ X.s₀.heap.objs.size ≤ b) ∧ b ≠ X.env.locals ∧ (∀ x c, X.env.cells.lookup x = some c → c ≠ b) ∧ ∀ p ∈ X.pn ++ pins, p.1 ≠ b) :
    Inv X pins σ H' { s with heap := h', gens := g', drawn := d', toks := t' } := by
  obtain ⟨m, ⟨o, es, ep, ho, r⟩, _⟩ := id I.loc
  obtain ⟨sl, hL⟩ := u.any ho I.free fun z => (hch _ z).2.1 rfl
  exact I.step (ch := ch) hch (fun b o hL hb hc e n => u.keep b o e n (fun z => (List.mem_cons.mp (I.stkSub b z)).elim hL hb) hc) (fun b o _ _ hc e n => u.any e n hc) (fun b o hc e n => u.free b o e n hc) (fun b o hc e => u.there b o e hc) u.tups u.frzs u.tbls (fun m' hm => by
    obtain ⟨o', es', ep', ho', r'⟩ := hm
    rw [ho] at ho'; cases ho'
    exact ⟨_, es', ep', hL, r'⟩) hok hg
theorem Inv.turned {t' : Nat} {it : Addr} (I : Inv X pins σ H s) (k : ∀ b o, b ≠ it → s.heap.get? b = some o → h'.get? b = some o) (hn : H it = none) (hL : it ≠ X.env.locals)
    (h1 : it ∈ X.ex ∨ X.s₀.heap.objs.size ≤ it) (h2 : ∀ x c, X.env.cells.lookup x = some c → c ≠ it) (h3 : ∀ p ∈ X.pn ++ pins, p.1 ≠ it) : Inv X pins σ H { s with heap := h', toks := t' } := by
  have nit : ∀ b u, H b = some u → b ≠ it := fun b u e z => by rw [z, hn] at e; cases e
  refine I.step (g' := s.gens) (d' := s.drawn) (ch := [it]) (fun b hb => ?_) (fun b o _ _ hc e _ => k b o (fun z => hc (by simp [z])) e) (fun b o _ _ hc e _ => ⟨o.slots, k b o (fun z => hc (by simp [z])) e⟩) (fun _ _ _ _ n => n)
    (fun b o hc e => ⟨o, k b o (fun z => hc (by simp [z])) e⟩) (fun _ _ e => e) (fun _ _ _ e => e) (fun b ps e => ⟨#[], by rw [e]; simp⟩) (fun m hm => ?_) (fun b u e => ?_) I.bare
  · have e : b = it := by simpa using hb
    subst e
    exact ⟨h1, hL, h2, h3⟩
  · obtain ⟨o, es, ep, ho, r⟩ := hm
    exact ⟨o, es, ep, k _ o (Ne.symm hL) ho, r⟩
  · refine (I.hok b u e).stay (fun c v hc q => k c v ?_ q) (fun _ q => q) fun _ _ q => q
    rcases hc with z | z
    · rw [z]; exact nit b u e
    · exact nit c _ z
theorem Inv.tok (I : Inv X pins σ H s) (t : Nat) : Inv X pins σ H { s with toks := t } := I.un (h' := s.heap) (t' := t) Un.refl I.hok
theorem Inv.kept {t' : Nat} (I : Inv X pins σ H s) (k : ∀ b u, s.heap.get? b = some u → h'.get? b = some u) : Inv X pins σ H { s with heap := h', toks := t' } := I.un (Un.kept k) (I.hok.kept k)
theorem Inv.laid {a : Addr} {o : HO} {t' : Nat} (I : Inv X pins σ H s) (k : ∀ b u, s.heap.get? b = some u → h'.get? b = some u) (hp : s.heap.objs.size ≤ a) (new : ObjOk X.prog X.w (upd H a o) h' a o) :
    Inv X pins σ (upd H a o) { s with heap := h', toks := t' } := I.un (Un.laid k hp (I.hok.fresh hp)) (I.hok.laid k hp new)
theorem Inv.write {x e : Addr} {o : HO} {t' : Nat} (I : Inv X pins σ H s) (mu : Mut (H x)) (he : e = x ∨ H e = some (.own x)) (k : ∀ b u, b ≠ e → s.heap.get? b = some u → h'.get? b = some u) (heo : ∃ u, h'.get? e = some u)
    (new : ObjOk X.prog X.w (upd H x o) h' x o) : Inv X pins σ (upd H x o) { s with heap := h', toks := t' } := I.un (Un.write mu he k heo) (I.hok.write mu he k heo new)
theorem Inv.pins_of {pins' : List (Addr × Obj)} (I : Inv X pins σ H s) (h : ∀ p ∈ pins', s.heap.get? p.1 = some p.2 ∧ H p.1 = none ∧ p.1 ≠ X.env.locals ∧ p.1 ∉ X.fs ∧ ∀ v, p.2.data ≠ .cell v) : Inv X pins' σ H s :=
  ⟨I.ok, I.os, I.bare, I.base, I.loc, I.cell, I.free, I.freeC, fun p hp => (List.mem_append.mp hp).elim (fun z => I.pin p (List.mem_append_left _ z)) (h p), I.hok, I.len⟩

theorem nodup_ix {N : List Str} (hN : N.Nodup) {i j : Nat} {x : Str} (a : N[i]? = some x) (b : N[j]? = some x) : i = j := by
  obtain ⟨h1, e1⟩ := List.getElem?_eq_some_iff.mp a
  obtain ⟨h2, e2⟩ := List.getElem?_eq_some_iff.mp b
  exact (List.getElem_inj hN).mp (e1.trans e2.symm)

theorem store_ok2 {M : Model} {A : Around} {E : Value → Shared → Prop} {i : Nat} {x : Str} {v : V} {u : Value} {Q : Unit → Shared → Prop} (I : Inv X pins σ H s) (hN : X.N.Nodup) (hi : X.N[i]? = some x) (hx : Loc X.env.scope x) (r : RelV v u)
    (h : ∀ s', Inv X pins (σ.set i (some v)) H s' → (∃ a, Heap.SameBut a s.heap s'.heap ∧ (a = X.env.locals ∨ X.env.cells.lookup x = some a)) → Q () s') (hf : X.fn x = true ∨ X.env.scope.names.lookup x = some .local := by first | exact .inl rfl | exact .inr rfl | assumption) : wpAny M A (storeName X.env x u) Q E s := by
  obtain ⟨m, hn, hl⟩ := id I.loc
  have hcls : (X.env.scope.kind == .class || (X.env.scope.kind == .module && X.env.locals != X.env.globals)) = false := by rw [I.ok.kind]; rfl
  have hiσ : i < σ.length := by rw [I.len]; exact (List.getElem?_eq_some_iff.mp hi).1
  have cne := I.cne
  have tracked : ∀ {a : Addr} {h' : Heap}, (∃ o, s.heap.get? a = some o ∧ H a = none) → Heap.SameBut a s.heap h' → HOk X.prog X.w H h' := fun {a h'} ha hs b ob e => by
    obtain ⟨_, _, hfree⟩ := ha
    refine (I.hok b ob e).stay (fun c w' hc q => (hs.2 c ?_).trans q) (fun _ q => q) fun _ _ q => q
    rintro rfl
    rcases hc with rfl | hc
    · rw [hfree] at e; cases e
    · rw [hfree] at hc; cases hc
  rcases hx with hk | hk
  · refine wpAny_storeName_local hk hn (fun h' hn' hs => ?_) hcls
    obtain ⟨oL, _, _, hoL, _⟩ := id hn
    refine h _ ⟨I.ok, I.os, I.bare, ⟨fun b o e n hb hx => ?_, fun b o e n hb hx => ?_, I.base.free, fun b o e hx => ?_, I.base.tups, I.base.frzs, I.base.tbls⟩, ⟨_, hn', fun j y v' e1 e2 e3 => ?_⟩, fun y c e => ?_, I.free, I.freeC, fun p hp => ?_, tracked ⟨oL, hoL, I.free⟩ hs, by simpa using I.len⟩ ⟨_, hs, .inl rfl⟩
    · exact (hs.2 b (Nat.ne_of_lt (Nat.lt_of_lt_of_le (Heap.lt_size e) I.ok.above))).trans (I.base.keep b o e n hb hx)
    · obtain ⟨sl, e1⟩ := I.base.slot b o e n hb hx
      exact ⟨sl, (hs.2 b (Nat.ne_of_lt (Nat.lt_of_lt_of_le (Heap.lt_size e) I.ok.above))).trans e1⟩
    · obtain ⟨o', e1⟩ := I.base.there b o e hx
      exact ⟨o', (hs.2 b (Nat.ne_of_lt (Nat.lt_of_lt_of_le (Heap.lt_size e) I.ok.above))).trans e1⟩
    · by_cases hj : j = i
      · subst hj
        rw [hi] at e1; cases e1
        rw [List.getElem?_set_self hiσ] at e2
        cases e2
        exact ⟨u, r, .inl ⟨hk, by simp⟩⟩
      · rw [List.getElem?_set_ne (Ne.symm hj)] at e2
        obtain ⟨u', r', q⟩ := hl j y v' e1 e2 e3
        refine ⟨u', r', ?_⟩
        rcases q with ⟨k, e⟩ | ⟨k, c, e, z⟩
        · refine .inl ⟨k, ?_⟩
          have : y ≠ x := fun e => hj (nodup_ix hN e1 (e ▸ hi))
          simp [this, e]
        · exact .inr ⟨k, c, e, z.sameBut hs (cne y c e)⟩
    · obtain ⟨w', z⟩ := I.cell y c e
      exact ⟨w', z.sameBut hs (cne y c e)⟩
    · obtain ⟨e, n, ne, nf, d⟩ := I.pin p hp
      exact ⟨(hs.2 p.1 ne).trans e, n, ne, nf, d⟩
  · have hfn : X.fn x = true := by
      rcases hf with z | z
      · exact z
      · rw [z] at hk; cases hk
    obtain ⟨c, hc⟩ := I.ok.has x (.inl hk)
    obtain ⟨w', z⟩ := I.cell x c hc
    refine wpAny_storeName_cell I.ok.kind hk hc z (fun h' hc' hs => ?_)
    obtain ⟨oc, hoc, hocd⟩ := id z
    refine h { s with heap := h' } ⟨I.ok, I.os, I.bare, ⟨fun b o e n hb hx => ?_, fun b o e n hb hx => ?_, I.base.free, fun b o e hx => ?_, I.base.tups, I.base.frzs, I.base.tbls⟩, ⟨m, hn.sameBut hs (Ne.symm (cne x c hc)), fun j y v' e1 e2 e3 => ?_⟩, fun y c' e => ?_, I.free, I.freeC, fun p hp => ?_, tracked ⟨oc, hoc, I.freeC x c hc⟩ hs, by simpa using I.len⟩ ⟨c, hs, .inr hc⟩
    · exact (hs.2 b (Nat.ne_of_lt (Nat.lt_of_lt_of_le (Heap.lt_size e) (I.ok.cab x c hfn hc)))).trans (I.base.keep b o e n hb hx)
    · obtain ⟨sl, e1⟩ := I.base.slot b o e n hb hx
      exact ⟨sl, (hs.2 b (Nat.ne_of_lt (Nat.lt_of_lt_of_le (Heap.lt_size e) (I.ok.cab x c hfn hc)))).trans e1⟩
    · obtain ⟨o', e1⟩ := I.base.there b o e hx
      exact ⟨o', (hs.2 b (Nat.ne_of_lt (Nat.lt_of_lt_of_le (Heap.lt_size e) (I.ok.cab x c hfn hc)))).trans e1⟩
    · by_cases hj : j = i
      · subst hj
        rw [hi] at e1; cases e1
        rw [List.getElem?_set_self hiσ] at e2
        cases e2
        exact ⟨u, r, .inr ⟨.inl hk, c, hc, hc'⟩⟩
      · rw [List.getElem?_set_ne (Ne.symm hj)] at e2
        obtain ⟨u', r', q⟩ := hl j y v' e1 e2 e3
        refine ⟨u', r', ?_⟩
        rcases q with q | ⟨k, c', e, z'⟩
        · exact .inl q
        · refine .inr ⟨k, c', e, z'.sameBut hs ?_⟩
          rintro rfl
          exact hj (nodup_ix hN e1 (I.ok.inj _ _ _ e hc ▸ hi))
    · by_cases hcc : c' = c
      · subst hcc; exact ⟨_, hc'⟩
      · obtain ⟨w2, z2⟩ := I.cell y c' e
        exact ⟨w2, z2.sameBut hs hcc⟩
    · obtain ⟨e, n, ne, nf, d⟩ := I.pin p hp
      refine ⟨(hs.2 p.1 ?_).trans e, n, ne, nf, d⟩
      intro q
      rw [q, hoc] at e
      have q' : oc = p.2 := Option.some.inj e
      exact d w' (by rw [← q']; exact hocd)
theorem store_ok {M : Model} {A : Around} {E : Value → Shared → Prop} {i : Nat} {x : Str} {v : V} {u : Value} {Q : Unit → Shared → Prop} (I : Inv X pins σ H s) (hN : X.N.Nodup) (hi : X.N[i]? = some x) (hx : Loc X.env.scope x) (r : RelV v u)
    (h : ∀ s', Inv X pins (σ.set i (some v)) H s' → Q () s') (hf : X.fn x = true ∨ X.env.scope.names.lookup x = some .local := by first | exact .inl rfl | exact .inr rfl | assumption) : wpAny M A (storeName X.env x u) Q E s :=
  store_ok2 I hN hi hx r (fun s' I' _ => h s' I') hf
theorem Inv.call' {s' : Shared} {ch : List Addr} (I : Inv X pins σ H s) (ho : s'.os = s.os) (u : Un (frs X.stack) ch H H' s.heap s'.heap) (hok : HOk X.prog X.w H' s'.heap) (hg : AllBare s'.gens)
    (hch : ∀ b ∈ ch, (b ∈ X.ex ∨ X.s₀.heap.objs.size ≤ b) ∧ b ≠ X.env.locals ∧ (∀ x c, X.env.cells.lookup x = some c → c ≠ b) ∧ ∀ p ∈ X.pn ++ pins, p.1 ≠ b) : Inv X pins σ H' s' := by
  obtain ⟨h', g', d', t', o'⟩ := s'
  have e : o' = s.os := ho
  subst e
  exact I.call (g' := g') (t' := t') (d' := d') u hok hg hch
end

noncomputable abbrev XK := Value → Option Addr → Hp → Prop
noncomputable abbrev St := List (Option V)
noncomputable abbrev VK := V → Hp → Prop
noncomputable abbrev TE := St → Hp → VK → Prop
noncomputable abbrev TT := St → Hp → (Bool → Hp → Prop) → Prop
noncomputable abbrev TA := St → Hp → (List V → Hp → Prop) → Prop
structure Ends where
  nx : St → Hp → Prop
  rt : VK
  bk : St → Hp → Prop := fun _ _ => False
  ct : St → Hp → Prop := fun _ _ => False
noncomputable abbrev TS := Ends → St → Hp → Prop

noncomputable def EP (X : Cx) (pins : List (Addr × Obj)) (σ : St) (Q : VK) (u : Value) (s' : Shared) : Prop := ∃ v H', Inv X pins σ H' s' ∧ RelV v u ∧ Q v H'
noncomputable def TP (X : Cx) (pins : List (Addr × Obj)) (σ : St) (Q : Bool → Hp → Prop) (b : Bool) (s' : Shared) : Prop := ∃ H', Inv X pins σ H' s' ∧ Q b H'
noncomputable def AP (X : Cx) (pins : List (Addr × Obj)) (σ : St) (Q : List V → Hp → Prop) (us : List Value) (s' : Shared) : Prop := ∃ vs H', Inv X pins σ H' s' ∧ Vals vs us ∧ Q vs H'
noncomputable def SP (X : Cx) (pins : List (Addr × Obj)) (D : Ends) (f : Flow) (s' : Shared) : Prop :=
  match f with
  | .next => ∃ σ' H', Inv X pins σ' H' s' ∧ D.nx σ' H'
  | .brk => ∃ σ' H', Inv X pins σ' H' s' ∧ D.bk σ' H'
  | .cont => ∃ σ' H', Inv X pins σ' H' s' ∧ D.ct σ' H'
  | .ret u => ∃ v σ' H', Inv X pins σ' H' s' ∧ RelV v u ∧ D.rt v H'

noncomputable def PE (X : Cx) (e : Expr) (t : TE) : Prop :=
  ∀ (pins : List (Addr × Obj)) (s : Shared) (σ : St) (H : Hp) (Q : VK), Inv X pins σ H s → t σ H Q → wpAny (model X.prog X.w) X.A (eval e X.env) (EP X pins σ Q) X.xe s
noncomputable def PT (X : Cx) (e : Expr) (t : TT) : Prop :=
  ∀ (pins : List (Addr × Obj)) (s : Shared) (σ : St) (H : Hp) (Q : Bool → Hp → Prop), Inv X pins σ H s → t σ H Q → wpAny (model X.prog X.w) X.A (isTrue e X.env (eval e X.env)) (TP X pins σ Q) X.xe s
noncomputable def PW (X : Cx) (e : Expr) (t : TT) : Prop :=
  ∀ (whole : Sem Value) (pins : List (Addr × Obj)) (s : Shared) (σ : St) (H : Hp) (Q : Bool → Hp → Prop), Inv X pins σ H s → t σ H Q → wpAny (model X.prog X.w) X.A (isTrue e X.env whole) (TP X pins σ Q) X.xe s
theorem PW.pt {X : Cx} {e : Expr} {t : TT} (h : PW X e t) : PT X e t := h _
noncomputable def PA (X : Cx) (es : List Expr) (t : TA) : Prop :=
  ∀ (pos : Pos) (pins : List (Addr × Obj)) (s : Shared) (σ : St) (H : Hp) (Q : List V → Hp → Prop), Inv X pins σ H s → t σ H Q → wpAny (model X.prog X.w) X.A (spliced (backTo pos (starEach es X.env))) (AP X pins σ Q) X.xe s
noncomputable def PS (X : Cx) (st : Stmt) (t : TS) : Prop :=
  ∀ (pins : List (Addr × Obj)) (s : Shared) (σ : St) (H : Hp) (D : Ends), Inv X pins σ H s → t D σ H → wpAny (model X.prog X.w) X.A (exec st X.env) (SP X pins D) X.xe s
noncomputable def PSs (X : Cx) (st : List Stmt) (t : TS) : Prop :=
  ∀ (pins : List (Addr × Obj)) (s : Shared) (σ : St) (H : Hp) (D : Ends), Inv X pins σ H s → t D σ H → wpAny (model X.prog X.w) X.A (execs st X.env) (SP X pins D) X.xe s
theorem thn {α : Type} {t : Sem α} {Q Q' : α → Shared → Prop} {M : Model} {A : Around} {E : Value → Shared → Prop} {s : Shared} (h : wpAny M A t Q E s) (hQ : ∀ a s, Q a s → Q' a s) : wpAny M A t Q' E s := wpAny_mono h hQ fun _ _ x => x
end L2

namespace L2
open PySem PySem.Spec PyProof.Rows
section
variable {X : Cx}

noncomputable def tVar (i : Nat) : TE := fun σ H Q => ∃ v, σ[i]? = some (some v) ∧ Q v H
noncomputable def tC (v : V) : TE := fun _ H Q => Q v H
theorem pe_var {i : Nat} {x : Str} {pos : Pos} (hN : X.N[i]? = some x) (hv : Vis X.env.scope x) (hd : (x == ("__debug__" : Str)) = false := by decide) (hcd : (x == ("__classdict__" : Str)) = false := by decide) : PE X (.Name x pos) (tVar i) := by
  intro pins s σ H Q I h
  obtain ⟨v, e, h⟩ := h
  obtain ⟨m, hn, hl⟩ := I.loc
  obtain ⟨u, r, l⟩ := hl i x v hN e hv
  have fin : EP X pins σ Q u s := ⟨v, H, I, r, h⟩
  rcases l with ⟨hk, hm⟩ | ⟨hk, c, hc, hcell⟩
  · exact wpAny_Name (wpAny_loadName_local I.ok.kind hk hn hm fin) hd
  · rcases hk with hk | hk
    · exact wpAny_Name (wpAny_loadName_cell I.ok.kind hk hc hcell fin) hd
    · exact wpAny_Name (wpAny_loadName_free I.ok.kind hk hc hcell fin hcd) hd
theorem pe_int {i j pos} : PE X (.Constant (.int i) j pos) (tC (.int i)) := fun _ _ _ H _ I h => wpAny_Constant_int ⟨.int i, H, I.tok _, ⟨_, rfl⟩, h⟩
theorem pe_bl {b j pos} : PE X (.Constant (.bool b) j pos) (tC (.bl b)) := fun _ _ _ H _ I h => Constant_bool ⟨.bl b, H, I, rfl, h⟩
theorem pe_non {j pos} : PE X (.Constant .none j pos) (tC .non) := fun _ _ _ H _ I h => Constant_none ⟨.non, H, I, rfl, h⟩
theorem pe_str {x j pos} : PE X (.Constant (.str x) j pos) (tC (.str x)) := fun _ _ _ H _ I h => Calls.Constant_str ⟨.str x, H, I.tok _, ⟨_, rfl⟩, h⟩

noncomputable def Gl (X : Cx) (x : Str) : Prop := X.env.kindOf x = some .globalImplicit
theorem ld_glob {E : Value → Shared → Prop} {pins : List (Addr × Obj)} {s : Shared} {σ : St} {H : Hp} {x : Str} {u : Value} {pos : Pos} {Q : Value → Shared → Prop} (I : Inv X pins σ H s) (hg : Gl X x) (hm : X.mg x = some u) (h : Q u s)
    (hd : (x == ("__debug__" : Str)) = false := by decide) : wpAny (model X.prog X.w) X.A (eval (.Name x pos) X.env) Q E s :=
  Calls.Name_function_global I.ok.kind hg (Calls.loadGlobal_global (by rw [I.ok.glob]; exact I.mod.glob.keeps I.bk) hm h) hd
theorem ld_blt {E : Value → Shared → Prop} {pins : List (Addr × Obj)} {s : Shared} {σ : St} {H : Hp} {x : Str} {u : Value} {pos : Pos} {Q : Value → Shared → Prop} (I : Inv X pins σ H s) (hg : Gl X x) (hm : X.mg x = none) (hv : bootBuiltins x = some u) (h : Q u s)
    (hn : x ≠ "__name__" := by decide) (hd : (x == ("__debug__" : Str)) = false := by decide) : wpAny (model X.prog X.w) X.A (eval (.Name x pos) X.env) Q E s := by
  obtain ⟨mb, h1, h2⟩ := I.mod.blt
  exact Calls.Name_function_global I.ok.kind hg (Calls.loadGlobal_builtin (by rw [I.ok.glob]; exact I.mod.glob.keeps I.bk) hm (by rw [I.ok.blt]; exact h1.keeps I.bk) ((h2 x hn).trans hv) h) hd
theorem pe_glob {x : Str} {v : V} {u : Value} {pos : Pos} (hg : Gl X x) (hm : X.mg x = some u) (r : RelV v u) (hd : (x == ("__debug__" : Str)) = false := by decide) : PE X (.Name x pos) (tC v) :=
  fun _ _ _ H _ I h => ld_glob I hg hm ⟨v, H, I, r, h⟩ hd
theorem pe_bltn {x : Str} {v : V} {u : Value} {pos : Pos} (hg : Gl X x) (hm : X.mg x = none) (hv : bootBuiltins x = some u) (r : RelV v u) (hn : x ≠ "__name__" := by decide) (hd : (x == ("__debug__" : Str)) = false := by decide) : PE X (.Name x pos) (tC v) :=
  fun _ _ _ H _ I h => ld_blt I hg hm hv ⟨v, H, I, r, h⟩ hn hd

variable {a b : Expr} {ta tb : TE} {pos : Pos}
variable {tA tB' : TT} {rest : List Expr}
noncomputable def tAnd (t u : TT) : TT := fun σ H Q => t σ H fun c H1 => if c = true then u σ H1 Q else Q false H1
noncomputable def tOr (t u : TT) : TT := fun σ H Q => t σ H fun c H1 => if c = true then Q true H1 else u σ H1 Q
noncomputable def tNot (t : TT) : TT := fun σ H Q => t σ H fun c H1 => Q (!c) H1
theorem pw_and1 (ha : PT X a tA) : PW X (.BoolOp .And [a] pos) tA := by
  intro wh pins s σ H Q I h
  refine isTrue_and (thn (ha pins s σ H Q I h) fun c s1 e => ?_)
  cases c with
  | true => exact isTrue_and_nil e
  | false => exact e
theorem pw_or1 (ha : PT X a tA) : PW X (.BoolOp .Or [a] pos) tA := by
  intro wh pins s σ H Q I h
  refine isTrue_or (thn (ha pins s σ H Q I h) fun c s1 e => ?_)
  cases c with
  | false => exact isTrue_or_nil e
  | true => exact e
theorem pw_and (ha : PT X a tA) (hb : PW X (.BoolOp .And (b :: rest) pos) tB') : PW X (.BoolOp .And (a :: b :: rest) pos) (tAnd tA tB') := by
  intro wh pins s σ H Q I h
  refine isTrue_and (thn (ha pins s σ H _ I h) fun c s1 hpat => ?_)
  obtain ⟨H1, I1, q1⟩ := hpat
  cases c with
  | true => exact hb wh pins s1 σ H1 Q I1 q1
  | false => exact ⟨H1, I1, q1⟩
theorem pw_or (ha : PT X a tA) (hb : PW X (.BoolOp .Or (b :: rest) pos) tB') : PW X (.BoolOp .Or (a :: b :: rest) pos) (tOr tA tB') := by
  intro wh pins s σ H Q I h
  refine isTrue_or (thn (ha pins s σ H _ I h) fun c s1 hpat => ?_)
  obtain ⟨H1, I1, q1⟩ := hpat
  cases c with
  | true => exact ⟨H1, I1, q1⟩
  | false => exact hb wh pins s1 σ H1 Q I1 q1
theorem pt_not (ha : PT X a tA) : PT X (.UnaryOp .Not a pos) (tNot tA) := by
  intro pins s σ H Q I h
  exact isTrue_not (ha pins s σ H (fun c H1 => Q (!c) H1) I h)
noncomputable def tAndV (ta tb : TE) : TE := fun σ H Q => ta σ H fun x H1 => ∃ c, x = .bl c ∧ if c = true then tb σ H1 Q else Q (.bl false) H1
noncomputable def tNotV (ta : TE) : TE := fun σ H Q => ta σ H fun x H1 => ∃ c, x = .bl c ∧ Q (.bl (!c)) H1
theorem pe_one {op} {t : TE} (h : PE X a t) : PE X (.BoolOp op [a] pos) t := fun pins s σ H Q I hw => BoolOp_one (h pins s σ H Q I hw)
theorem pe_and (ha : PE X a ta) (hb : PE X (.BoolOp .And (b :: rest) pos) tb) : PE X (.BoolOp .And (a :: b :: rest) pos) (tAndV ta tb) := by
  intro pins s σ H Q I h
  refine BoolOp_and (thn (ha pins s σ H _ I h) fun v s1 hpat => ?_)
  obtain ⟨x, H1, I1, r1, q1⟩ := hpat
  obtain ⟨c, rfl, q1⟩ := q1
  cases r1
  refine wpAny_truthy_bool ?_
  cases c with
  | true => exact hb pins s1 σ H1 Q I1 q1
  | false => exact ⟨.bl false, H1, I1, rfl, q1⟩
theorem pe_not (ha : PE X a ta) : PE X (.UnaryOp .Not a pos) (tNotV ta) := by
  intro pins s σ H Q I h
  refine UnaryOp_ (thn (ha pins s σ H _ I h) fun v s1 hpat => ?_)
  obtain ⟨x, H1, I1, r1, q1⟩ := hpat
  obtain ⟨c, rfl, q1⟩ := q1
  cases r1
  exact not_of (wpAny_truthy_bool ⟨.bl (!c), H1, I1, rfl, q1⟩)
noncomputable def tIf (t : TT) (ta tb : TE) : TE := fun σ H Q => t σ H fun c H1 => if c = true then ta σ H1 Q else tb σ H1 Q
theorem pe_ifExp {c : Expr} (hc : PT X c tA) (ha : PE X a ta) (hb : PE X b tb) : PE X (.IfExp c a b pos) (tIf tA ta tb) := by
  intro pins s σ H Q I h
  refine wpAny_IfExp (thn (hc pins s σ H _ I h) fun d s1 hpat => ?_)
  obtain ⟨H1, I1, q1⟩ := hpat
  cases d with
  | true => exact ha pins s1 σ H1 Q I1 q1
  | false => exact hb pins s1 σ H1 Q I1 q1
end
end L2

namespace L2
open PySem PySem.Spec PyProof.Rows

noncomputable def SqL (K : PySem.W.Frag) (H : Hp) (a : Addr) (xs : List V) : Prop :=
  Rd H a (.lst xs) ∨
    ∃ (o : Obj) (its : Array Value) (n : Nat), K.lookup a = some o ∧ o.cls = .type "list" ∧ o.dict = none ∧ o.data = .seq its n ∧ its.size ≤ sizeLine ∧ Vals xs its.toList
noncomputable def SqT (K : PySem.W.Frag) (H : Hp) (a : Addr) (xs : List V) : Prop :=
  Rd H a (.tup xs) ∨
    ∃ (o : Obj) (its : Array Value) (n : Nat), K.lookup a = some o ∧ o.cls = .type "tuple" ∧ o.data = .seq its n ∧ its.size ≤ sizeLine ∧ Vals xs its.toList
noncomputable def absV : Value → Option V
  | .none => some .non
  | .bool b => some (.bl b)
  | .int i _ => some (.int i)
  | .str x _ => some (.str x)
  | .bytes b _ => some (.byt b)
  | .float b _ => some (.flt b)
  | .ref a => some (.ref a)
  | .type n => some (.ty n)
  | _ => none
theorem RelV.abs {x : V} {u : Value} (r : RelV x u) : absV u = some x := by
  cases x with
  | non => cases r; rfl
  | bl _ => cases r; rfl
  | int _ => obtain ⟨t, rfl⟩ := r; rfl
  | str _ => obtain ⟨t, rfl⟩ := r; rfl
  | byt _ => obtain ⟨t, rfl⟩ := r; rfl
  | flt _ => obtain ⟨t, rfl⟩ := r; rfl
  | ref _ => cases r; rfl
  | ty _ => cases r; rfl
theorem RelV.inj {x y : V} {u : Value} (r : RelV x u) (q : RelV y u) : x = y := Option.some.inj (r.abs.symm.trans q.abs)
theorem Vals.inj : ∀ {xs ys : List V} {us : List Value}, Vals xs us → Vals ys us → xs = ys
  | _, _, _, .nil, .nil => rfl
  | _, _, _, .cons r t, .cons r' t' => by rw [r.inj r', Vals.inj t t']
section
variable {X : Cx} {pins : List (Addr × Obj)} {σ : St} {H : Hp} {s : Shared} {a : Addr} {xs ys : List V}
theorem SqL.of {K : PySem.W.Frag} (h : H a = some (.lst xs)) : SqL K H a xs := .inl (.inl h)
theorem SqT.of {K : PySem.W.Frag} (h : H a = some (.tup xs)) : SqT K H a xs := .inl (.inl h)
theorem Inv.list (I : Inv X pins σ H s) (h : SqL X.K H a xs) : ∃ its : List Value, Vals xs its ∧ PlainL s.heap a its.toArray ∧ xs.length ≤ sizeLine := by
  rcases h with h | ⟨o, its, n, hk, hc, hd, hs, hz, r⟩
  · obtain ⟨z, its, n, r, e⟩ := h.ok I.hok
    exact ⟨its, r, ⟨_, n, e, rfl, rfl, rfl⟩, z⟩
  · refine ⟨its.toList, r, ⟨o, n, I.kIn a o hk, hc, hd, by simpa using hs⟩, ?_⟩
    have e := r.length
    simp only [Array.length_toList] at e
    omega
theorem Inv.tuple (I : Inv X pins σ H s) (h : SqT X.K H a xs) : ∃ its : List Value, Vals xs its ∧ IsTup s.heap a its.toArray ∧ xs.length ≤ sizeLine := by
  rcases h with h | ⟨o, its, n, hk, hc, hs, hz, r⟩
  · obtain ⟨z, its, r, p⟩ := h.ok I.hok
    exact ⟨its, r, p, z⟩
  · refine ⟨its.toList, r, ⟨o, I.kIn a o hk, hc, n, by simpa using hs⟩, ?_⟩
    have e := r.length
    simp only [Array.length_toList] at e
    omega
theorem Inv.list_inj (I : Inv X pins σ H s) (h : SqL X.K H a xs) (h' : SqL X.K H a ys) : xs = ys := by
  obtain ⟨its, r, ⟨o, n, e, _, _, d⟩, _⟩ := I.list h
  obtain ⟨its', r', ⟨o', n', e', _, _, d'⟩, _⟩ := I.list h'
  rw [e] at e'; cases e'
  rw [d] at d'
  injection d' with d1 _
  have : its = its' := by simpa using congrArg Array.toList d1
  subst this
  exact r.inj r'
theorem Inv.tuple_inj (I : Inv X pins σ H s) (h : SqT X.K H a xs) (h' : SqT X.K H a ys) : xs = ys := by
  obtain ⟨its, r, ⟨o, e, _, n, d⟩, _⟩ := I.tuple h
  obtain ⟨its', r', ⟨o', e', _, n', d'⟩, _⟩ := I.tuple h'
  rw [e] at e'; cases e'
  rw [d] at d'
  injection d' with d1 _
  have : its = its' := by simpa using congrArg Array.toList d1
  subst this
  exact r.inj r'
end

noncomputable abbrev Cx.wish (X : Cx) (E : Value → Shared → Prop) : Cx := { X with xe := E }
noncomputable abbrev Cx.nox (X : Cx) : Cx := X.wish fun _ _ => False
theorem Cx.Ok.wish {X : Cx} (ok : X.Ok) (E : Value → Shared → Prop) : (X.wish E).Ok :=
  ⟨ok.mod, ok.kind, ok.glob, ok.blt, ok.above, ok.inj, ok.has, ok.cab, ok.hd, ok.frames, ok.stk, ok.exf, ok.bs, ok.bsz, ok.noex, ok.exfs, ok.funs, ok.frf⟩
theorem Cx.Ok.unwish {X : Cx} {E : Value → Shared → Prop} (ok : (X.wish E).Ok) : X.Ok :=
  ⟨ok.mod, ok.kind, ok.glob, ok.blt, ok.above, ok.inj, ok.has, ok.cab, ok.hd, ok.frames, ok.stk, ok.exf, ok.bs, ok.bsz, ok.noex, ok.exfs, ok.funs, ok.frf⟩
section
variable {X : Cx} {pins : List (Addr × Obj)} {σ : St} {H : Hp} {s : Shared} {E : Value → Shared → Prop}
theorem Inv.wish (I : Inv X pins σ H s) (E : Value → Shared → Prop) : Inv (X.wish E) pins σ H s := ⟨I.ok.wish E, I.os, I.bare, I.base, I.loc, I.cell, I.free, I.freeC, I.pin, I.hok, I.len⟩
theorem Inv.unwish (I : Inv (X.wish E) pins σ H s) : Inv X pins σ H s := ⟨I.ok.unwish, I.os, I.bare, I.base, I.loc, I.cell, I.free, I.freeC, I.pin, I.hok, I.len⟩
theorem SP.unwish {D : Ends} {f : Flow} {s' : Shared} (h : SP (X.wish E) pins D f s') : SP X pins D f s' := by
  cases f with
  | next => obtain ⟨σ', H', I, q⟩ := h; exact ⟨σ', H', I.unwish, q⟩
  | brk => obtain ⟨σ', H', I, q⟩ := h; exact ⟨σ', H', I.unwish, q⟩
  | cont => obtain ⟨σ', H', I, q⟩ := h; exact ⟨σ', H', I.unwish, q⟩
  | ret u => obtain ⟨v, σ', H', I, r, q⟩ := h; exact ⟨v, σ', H', I.unwish, r, q⟩
theorem PE.nox {e : Expr} {t : TE} (h : PE X.nox e t) : PE X e t := fun pins s σ H Q I hw =>
  wpAny_mono (h pins s σ H Q (I.wish _) hw) (fun _ _ ⟨v, H', I', r, q⟩ => ⟨v, H', I'.unwish, r, q⟩) fun _ _ z => False.elim z
theorem PT.nox {e : Expr} {t : TT} (h : PT X.nox e t) : PT X e t := fun pins s σ H Q I hw =>
  wpAny_mono (h pins s σ H Q (I.wish _) hw) (fun _ _ ⟨H', I', q⟩ => ⟨H', I'.unwish, q⟩) fun _ _ z => False.elim z
theorem PSs.nox {st : List Stmt} {t : TS} (h : PSs X.nox st t) : PSs X st t := fun pins s σ H D I hw =>
  wpAny_mono (h pins s σ H D (I.wish _) hw) (fun _ _ q => q.unwish) fun _ _ z => False.elim z
end

section
variable {X : Cx} {st : Stmt} {rest : List Stmt} {t u : TS} {e : Expr} {te : TE} {pos : Pos}
noncomputable def tNext : TS := fun D σ H => D.nx σ H
noncomputable def tSeq (t u : TS) : TS := fun D σ H => t { D with nx := u D } σ H
theorem pss_nil : PSs X [] tNext := fun _ _ σ H _ I h => wpAny_execs_nil ⟨σ, H, I, h⟩
theorem pss_cons (h1 : PS X st t) (h2 : PSs X rest u) : PSs X (st :: rest) (tSeq t u) := by
  intro pins s σ H D I h
  refine wpAny_execs_cons (thn (h1 pins s σ H { D with nx := u D } I h) fun f s1 q => ?_)
  cases f with
  | next =>
    obtain ⟨σ', H', I', q⟩ := q
    exact h2 pins s1 σ' H' D I' q
  | ret v => exact q
  | brk => exact q
  | cont => exact q
theorem pss_one (h1 : PS X st t) : PSs X [st] t := by
  intro pins s σ H D I h
  refine wpAny_execs_cons (thn (h1 pins s σ H D I h) fun f s1 q => ?_)
  cases f with
  | next => exact wpAny_execs_nil q
  | ret v => exact q
  | brk => exact q
  | cont => exact q
theorem Inv.quiet {pins : List (Addr × Obj)} {σ : St} {H : Hp} {s : Shared} (I : Inv X pins σ H s) : interactive X.env = false := by simp [interactive, I.ok.kind]
noncomputable def tDrop (te : TE) : TS := fun D σ H => te σ H fun _ H1 => D.nx σ H1
theorem ps_expr (he : PE X e te) (hs : swapsWith e none pos.line X.env = pure false := by rfl) : PS X (.Expr e pos) (tDrop te) := by
  intro pins s σ H D I h
  exact wpAny_Expr_any (thn (he pins s σ H _ I h) fun v s1 ⟨x, H1, I1, r1, q1⟩ => ⟨σ, H1, I1, q1⟩) I.quiet hs
noncomputable def tRet (te : TE) : TS := fun D σ H => te σ H D.rt
theorem ps_ret (he : PE X e te) : PS X (.Return (some e) pos) (tRet te) := by
  intro pins s σ H D I h
  exact wpAny_Return_some (thn (he pins s σ H _ I h) fun v s1 ⟨x, H1, I1, r1, q1⟩ => ⟨x, σ, H1, I1, r1, q1⟩)
noncomputable def tIfS (c : TT) (t u : TS) : TS := fun D σ H => c σ H fun b H1 => if b = true then t D σ H1 else u D σ H1
theorem ps_if {c : Expr} {a b : List Stmt} {tc : TT} (hc : PT X c tc) (ha : PSs X a t) (hb : PSs X b u) : PS X (.If c a b pos) (tIfS tc t u) := by
  intro pins s σ H D I h
  refine wpAny_If (thn (hc pins s σ H _ I h) fun d s1 hpat => ?_)
  obtain ⟨H1, I1, q1⟩ := hpat
  cases d with
  | true => exact ha pins s1 σ H1 D I1 q1
  | false => exact hb pins s1 σ H1 D I1 q1
noncomputable def tNever : TS := fun _ _ _ => False
theorem ps_never : PS X st tNever := fun _ _ _ _ _ _ h => h.elim
end

noncomputable abbrev TG := V → St → Hp → (St → Hp → Prop) → Prop
noncomputable abbrev TGs := List V → St → Hp → (St → Hp → Prop) → Prop
noncomputable def PG (X : Cx) (target : Expr) (t : TG) : Prop :=
  ∀ (pins : List (Addr × Obj)) (s : Shared) (σ : St) (H : Hp) (v : V) (u : Value) (Q : St → Hp → Prop), Inv X pins σ H s → RelV v u → t v σ H Q →
    wpAny (model X.prog X.w) X.A (assign target X.env u) (fun _ s' => ∃ σ' H', Inv X pins σ' H' s' ∧ Q σ' H') X.xe s
noncomputable def PGs (X : Cx) (ts : List Expr) (t : TGs) : Prop :=
  ∀ (pins : List (Addr × Obj)) (s : Shared) (σ : St) (H : Hp) (vs : List V) (us : List Value) (Q : St → Hp → Prop), Inv X pins σ H s → Vals vs us → t vs σ H Q →
    wpAny (model X.prog X.w) X.A (assignInOrder ((assignEach ts X.env).map (·.2)) us) (fun _ s' => ∃ σ' H', Inv X pins σ' H' s' ∧ Q σ' H') X.xe s
noncomputable abbrev TSet := V → V → V → Hp → (Hp → Prop) → Prop
noncomputable def PSet (X : Cx) (t : TSet) : Prop :=
  ∀ (pins : List (Addr × Obj)) (s : Shared) (σ : St) (H : Hp) (o i v : V) (ov iv u : Value) (Q : Hp → Prop), Inv X pins σ H s → RelV o ov → RelV i iv → RelV v u → t o i v H Q →
    wpAny (model X.prog X.w) X.A (setItem ov iv u) (fun _ s' => ∃ H', Inv X pins σ H' s' ∧ Q H') X.xe s
noncomputable abbrev TIp := V → V → Hp → VK → Prop
noncomputable def PIp (X : Cx) (op : Operator) (t : TIp) : Prop :=
  ∀ (pins : List (Addr × Obj)) (s : Shared) (σ : St) (H : Hp) (x y : V) (v u : Value) (Q : VK), Inv X pins σ H s → RelV x v → RelV y u → t x y H Q →
    wpAny (model X.prog X.w) X.A (inplaceOp op v u) (EP X pins σ Q) X.xe s
section
variable {X : Cx} {pos : Pos}
noncomputable def gName (i : Nat) : TG := fun v σ H Q => Q (σ.set i (some v)) H
theorem pg_name {i : Nat} {x : Str} (hN : X.N.Nodup) (hi : X.N[i]? = some x) (hx : Loc X.env.scope x) (hf : X.fn x = true ∨ X.env.scope.names.lookup x = some .local := by first | exact .inl rfl | exact .inr rfl | assumption) : PG X (.Name x pos) (gName i) := by
  intro pins s σ H v u Q I r h
  exact wpAny_assign_Name (store_ok I hN hi hx r (fun s' I' => ⟨_, H, I', h⟩) hf)
noncomputable def gNil : TGs := fun vs σ H Q => vs = [] ∧ Q σ H
noncomputable def gCons (t : TG) (u : TGs) : TGs := fun vs σ H Q => ∃ v r, vs = v :: r ∧ t v σ H fun σ' H' => u r σ' H' Q
theorem pgs_nil : PGs X [] gNil := by
  intro pins s σ H vs us Q I r h
  obtain ⟨e, h⟩ := h
  subst e
  cases r
  exact assignInOrder_nil ⟨σ, H, I, h⟩
theorem pgs_cons {e : Expr} {es : List Expr} {t : TG} {u : TGs} (h1 : PG X e t) (h2 : PGs X es u)
    (hs : (assignEach (e :: es) X.env).map (·.2) = assign e X.env :: (assignEach es X.env).map (·.2) := by rfl) : PGs X (e :: es) (gCons t u) := by
  intro pins s σ H vs us Q I r h
  obtain ⟨v, vr, e1, h⟩ := h
  subst e1
  cases r with
  | cons r rr =>
    rw [hs]
    refine assignInOrder_cons (thn (h1 pins s σ H _ _ _ I r h) fun _ s1 hpat => ?_)
    obtain ⟨σ1, H1, I1, q1⟩ := hpat
    exact h2 pins s1 σ1 H1 _ _ Q I1 rr q1
noncomputable def gTup (K : PySem.W.Frag) (n : Nat) (t : TGs) : TG := fun v σ H Q => ∃ a xs, v = .ref a ∧ SqT K H a xs ∧ xs.length = n ∧ t xs σ H Q
theorem pg_tup {es : List Expr} {k : Nat} {t : TGs} {n : Nat} (hc : X.calm = true) (h : PGs X es t)
    (hn : (assignEach es X.env).length = n := by rfl) (hst : (assignEach es X.env).findIdx? (·.1) = none := by rfl) : PG X (.Tuple es k pos) (gTup X.K n t) := by
  intro pins s σ H v u Q I r hw
  obtain ⟨a, xs, e1, hq, hl, hw⟩ := hw
  subst e1
  cases r
  obtain ⟨its, rv, ht, hz⟩ := I.tuple hq
  refine assign_Tuple_tuple (I.ok.hd hc) ht (by simp [hn, ← hl, rv.length]) hst fun h' hx => ?_
  have I1 : Inv X pins σ H { s with heap := h' } := I.kept (t' := s.toks) fun b o e => hx b o (Nat.ne_of_lt (Heap.lt_size e)) e
  exact h pins _ σ H xs _ Q I1 (by simpa using rv) hw
noncomputable def gSub (to ti : TE) (t : TSet) : TG := fun v σ H Q => to σ H fun o H1 => ti σ H1 fun i H2 => t o i v H2 fun H3 => Q σ H3
theorem pg_sub {o i : Expr} {to ti : TE} {t : TSet} (ho : PE X o to) (hi : PE X i ti) (hs : PSet X t)
    (ha : ∀ v, assign (.Subscript o i pos) X.env v = (do
      let ov ← holding [v] (eval o X.env)
      let iv ← holding [v, ov] (eval i X.env)
      standAt pos
      holding [v, ov, iv] (setItem ov iv v)
      release [v, ov, iv] []) := by intro _; rfl) : PG X (.Subscript o i pos) (gSub to ti t) := by
  intro pins s σ H v u Q I r h
  rw [ha]
  refine wpAny_bind (wpAny_holding (thn (ho pins s σ H _ I h) fun ov s1 hpat => ?_))
  obtain ⟨x, H1, I1, r1, q1⟩ := hpat
  refine wpAny_bind (wpAny_holding (thn (hi pins s1 σ H1 _ I1 q1) fun iv s2 hpat => ?_))
  obtain ⟨y, H2, I2, r2, q2⟩ := hpat
  refine wpAny_bind (wpAny_standAt (wpAny_bind (wpAny_holding (thn (hs pins s2 σ H2 x y v ov iv u _ I2 r1 r2 r q2) fun _ s3 hpat => ?_))))
  obtain ⟨H3, I3, q3⟩ := hpat
  exact wpAny_release ⟨σ, H3, I3, q3⟩
noncomputable def tAsg (te : TE) (g : TG) : TS := fun D σ H => te σ H fun x H1 => g x σ H1 D.nx
theorem ps_asg {tg e : Expr} {te : TE} {g : TG} (he : PE X e te) (hg : PG X tg g) (hs : swapsWithSole [tg] e pos.line X.env = pure false := by rfl) (hw : swappedStores [tg] e X.env = pure none := by rfl)
    (h1 : (assignEach [tg] X.env).map (·.2) = [assign tg X.env] := by rfl) : PS X (.Assign [tg] e pos) (tAsg te g) := by
  intro pins s σ H D I h
  refine wpAny_Assign_stores (thn (he pins s σ H _ I h) fun v s1 hpat => ?_) hs hw
  obtain ⟨x, H1, I1, r1, q1⟩ := hpat
  rw [h1]
  exact thn (hg pins s1 σ H1 x v _ I1 r1 q1) fun _ s2 q => q
theorem ps_set {i : Nat} {x : Str} {e : Expr} {te : TE} {pos' : Pos} (hN : X.N.Nodup) (hi : X.N[i]? = some x) (hx : Loc X.env.scope x) (he : PE X e te) (hs : swapsWith e (some (.Name x pos')) pos.line X.env = pure false := by rfl) (hf : X.fn x = true ∨ X.env.scope.names.lookup x = some .local := by first | exact .inl rfl | exact .inr rfl | assumption) :
    PS X (.Assign [.Name x pos'] e pos) (tAsg te (gName i)) := by
  intro pins s σ H D I h
  refine wpAny_Assign_Name (thn (he pins s σ H _ I h) fun v s1 hpat => ?_) hs
  obtain ⟨y, H1, I1, r1, q1⟩ := hpat
  exact store_ok I1 hN hi hx r1 (fun s2 I2 => ⟨_, H1, I2, q1⟩) hf
noncomputable def tAug (i : Nat) (te : TE) (ti : TIp) : TS := fun D σ H => ∃ x, σ[i]? = some (some x) ∧ te σ H fun y H1 => ti x y H1 fun z H2 => D.nx (σ.set i (some z)) H2
theorem ps_aug {i : Nat} {x : Str} {e : Expr} {te : TE} {op : Operator} {ti : TIp} {pos' : Pos} (hN : X.N.Nodup) (hi : X.N[i]? = some x) (hx : Loc X.env.scope x) (he : PE X e te) (ho : PIp X op ti) (hf : X.fn x = true ∨ X.env.scope.names.lookup x = some .local := by first | exact .inl rfl | exact .inr rfl | assumption) :
    PS X (.AugAssign (.Name x pos') op e pos) (tAug i te ti) := by
  intro pins s σ H D I h
  obtain ⟨v, e1, h⟩ := h
  obtain ⟨m, hn, hl⟩ := I.loc
  have vis : Vis X.env.scope x := by rcases hx with k | k; exact .inl k; exact .inr (.inl k)
  obtain ⟨u, r, l⟩ := hl i x v hi e1 vis
  refine wpAny_AugAssign_Name ?_
  have go : wpAny (model X.prog X.w) X.A (eval e X.env) (fun w s₂ => wpAny (model X.prog X.w) X.A (inplaceOp op u w) (fun r s₃ => wpAny (model X.prog X.w) X.A (storeName X.env x r) (fun _ => SP X pins D .next) X.xe s₃) X.xe s₂) X.xe s := by
    refine thn (he pins s σ H _ I h) fun w s1 hpat => ?_
    obtain ⟨y, H1, I1, r1, q1⟩ := hpat
    refine thn (ho pins s1 σ H1 v y u w _ I1 r r1 q1) fun z s2 hpat => ?_
    obtain ⟨zv, H2, I2, r2, q2⟩ := hpat
    exact store_ok I2 hN hi hx r2 (fun s3 I3 => ⟨_, H2, I3, q2⟩) hf
  rcases l with ⟨hk, hm⟩ | ⟨hk, c, hc, hcell⟩
  · exact wpAny_loadName_local I.ok.kind hk hn hm go
  · rcases hk with hk | hk
    · exact wpAny_loadName_cell I.ok.kind hk hc hcell go
    · rcases hx with k | k
      · have : X.env.scope.names.lookup x = some .free := hk
        rw [k] at this; cases this
      · have : X.env.scope.names.lookup x = some .free := hk
        rw [k] at this; cases this
noncomputable def ipI (f : Int → Int → Int) : TIp := fun x y H Q => ∃ i j, x = .int i ∧ y = .int j ∧ Q (.int (f i j)) H
theorem ip_add : PIp X .Add (ipI fun i j => i + j) := by
  intro pins s σ H x y v u Q I r1 r2 h
  obtain ⟨i, j, e1, e2, q⟩ := h
  subst e1; subst e2
  obtain ⟨t, rfl⟩ := r1
  obtain ⟨t', rfl⟩ := r2
  exact iadd_int ⟨.int _, H, I.tok _, ⟨_, rfl⟩, q⟩
end

section
variable {X : Cx} {pos : Pos}
noncomputable def tWhile (c : TT) (tb : TS) : TS := fun D σ H => ∃ W : Nat → St → Hp → Prop, (∃ m, W m σ H) ∧ ∀ m σ H, W m σ H →
  c σ H fun b H1 => if b = true then ∃ N : St → Hp → Prop, (∀ σ' H', N σ' H' → ∃ m', m' < m ∧ W m' σ' H') ∧ tb { D with nx := N, ct := N, bk := D.nx } σ H1 else D.nx σ H1
theorem ps_while {c : Expr} {body : List Stmt} {tc : TT} {tb : TS} (hp : PassesOwn (model X.prog X.w) X.A X.env X.xe) (hc : PT X c tc) (hb : PSs X body tb) : PS X (.While c body [] pos) (tWhile tc tb) := by
  intro pins s σ H D I h
  obtain ⟨W, ⟨m0, w0⟩, turn⟩ := h
  refine wpAny_While (codeAny_whileLoop (fun n s' => ∃ σ' H', Inv X pins σ' H' s' ∧ W n σ' H') ?_ m0 ⟨σ, H, I, w0⟩)
  rintro n s1 ⟨σ1, H1, I1, w1⟩
  refine wpAny_passesOwn hp (thn (hc pins s1 σ1 H1 _ I1 (turn n σ1 H1 w1)) fun b s2 hpat => ?_)
  obtain ⟨H2, I2, q2⟩ := hpat
  cases b with
  | true =>
    obtain ⟨N, hN, q2⟩ := q2
    rw [if_pos rfl]
    refine wpAny_passesOwn hp (thn (hb pins s2 σ1 H2 _ I2 q2) fun f s3 q3 => ?_)
    cases f with
    | next =>
      obtain ⟨σ3, H3, I3, n3⟩ := q3
      obtain ⟨m', hm, w3⟩ := hN σ3 H3 n3
      exact ⟨m', hm, σ3, H3, I3, w3⟩
    | cont =>
      obtain ⟨σ3, H3, I3, n3⟩ := q3
      obtain ⟨m', hm, w3⟩ := hN σ3 H3 n3
      exact ⟨m', hm, σ3, H3, I3, w3⟩
    | brk => exact q3
    | ret v => exact q3
  | false =>
    rw [if_neg Bool.false_ne_true]
    exact wpAny_execs_nil ⟨σ1, H2, I2, q2⟩
end

structure It where
  go : Nat → Hp → Prop
  yld : Nat → Hp → V → Hp → Prop
  stop : Nat → Hp → Prop
noncomputable def FpOk (X : Cx) (pins : List (Addr × Obj)) (H : Hp) (b : Addr) : Prop :=
  H b = none ∧ b ≠ X.env.locals ∧ b ∉ X.fs ∧ (b ∈ X.ex ∨ X.s₀.heap.objs.size ≤ b) ∧ (∀ x c, X.env.cells.lookup x = some c → c ≠ b) ∧ ∀ p ∈ X.pn ++ pins, p.1 ≠ b
theorem Inv.fpOk {X : Cx} {pins : List (Addr × Obj)} {σ : St} {H H' : Hp} {s : Shared} {b : Addr} (I : Inv X pins σ H s) (hb : s.heap.objs.size ≤ b) (hn : H' b = none) : FpOk X pins H' b := by
  refine ⟨hn, Nat.ne_of_gt (Nat.lt_of_lt_of_le I.lt hb), I.nofs hb, .inr (Nat.le_trans I.sz hb), fun x c e z => ?_, fun p hp z => ?_⟩
  · obtain ⟨v, q⟩ := I.cell x c e
    exact absurd (Nat.lt_of_lt_of_le q.lt (by rw [z]; exact hb)) (Nat.lt_irrefl _)
  · exact absurd (Nat.lt_of_lt_of_le (Heap.lt_size (I.pin p hp).1) (by rw [z]; exact hb)) (Nat.lt_irrefl _)
structure Turn (P : Program) (w : World) (K : PySem.W.Frag) (tg : Expr) (J : It) (fp : List Addr) (it : Addr) (tn : Nat → Heap → Prop) : Prop where
  mem : it ∈ fp
  obj : ∀ i h, tn i h → ∀ b ∈ fp, ∃ o, h.get? b = some o ∧ ∀ v, o.data ≠ .cell v
  keep : ∀ i h h', tn i h → (∀ b ∈ fp, ∀ o, h.get? b = some o → h'.get? b = some o) → tn i h'
  item : ∀ (X : Cx), X.prog = P → X.w = w → X.K = K → X.calm = true → ∀ (i : Nat) (pins : List (Addr × Obj)) (s : Shared) (σ : St) (H : Hp) (E : Value → Shared → Prop), Inv X pins σ H s → (∀ b ∈ fp, FpOk X pins H b) → tn i s.heap → J.go i H →
    wpAny (model P w) X.A (pyNext (.ref it)) (fun r s1 => ∃ u, r = some u ∧
      wpAny (model P w) X.A (letOwnedTupleGo tg (.ref it) u) (fun _ s2 => ∃ x H', Inv X pins σ H' s2 ∧ RelV x u ∧ J.yld i H x H' ∧ tn (i + 1) s2.heap ∧ ∀ b ∈ fp, H' b = none) E s1) E s
  done : ∀ (X : Cx), X.prog = P → X.w = w → X.K = K → X.calm = true → ∀ (i : Nat) (pins : List (Addr × Obj)) (s : Shared) (σ : St) (H : Hp) (E : Value → Shared → Prop), Inv X pins σ H s → (∀ b ∈ fp, FpOk X pins H b) → tn i s.heap → J.stop i H →
    wpAny (model P w) X.A (pyNext (.ref it)) (fun r s1 => r = none ∧ Inv X pins σ H s1) E s
  self : ∀ (A : Around) (i : Nat) (s : Shared) (Q : Value → Shared → Prop) (E : Value → Shared → Prop), tn i s.heap → Q (.ref it) s → wpAny (model P w) A (pyIter (.ref it)) Q E s
noncomputable abbrev TI := St → Hp → (It → Hp → Prop) → Prop
noncomputable def PIE (X : Cx) (pins : List (Addr × Obj)) (σ : St) (tg : Expr) (R : It → Hp → Prop) (itv : Value) (s2 : Shared) : Prop :=
  ∃ (it : Addr) (fp : List Addr) (tn : Nat → Heap → Prop) (J : It) (H' : Hp), itv = .ref it ∧ Inv X pins σ H' s2 ∧ Turn X.prog X.w X.K tg J fp it tn ∧ tn 0 s2.heap ∧ (∀ b ∈ fp, FpOk X pins H' b) ∧ R J H'
noncomputable def PI (X : Cx) (tg iter : Expr) (wi : TI) : Prop :=
  ∀ (pins : List (Addr × Obj)) (s : Shared) (σ : St) (H : Hp) (R : It → Hp → Prop), Inv X pins σ H s → wi σ H R →
    wpAny (model X.prog X.w) X.A (eval iter X.env) (fun v s1 => wpAny (model X.prog X.w) X.A (pyIter v) (PIE X pins σ tg R) X.xe s1) X.xe s

theorem go_of {M : Model} {A : Around} {E : Value → Shared → Prop} {s : Shared} {tg : Expr} {it : Addr} {u : Value} {o : Obj} {n : String} {vs : Array Value} {Q : Unit → Shared → Prop} (ho : s.heap.get? it = some o) (hc : o.cls = .type n) (hd : o.data = .fields vs)
    (hn : ["enumerate", "zip", "dict_itemiterator", "dict_reverseitemiterator", "odict_iterator", "itertools.zip_longest", "itertools.pairwise"].contains n = false) (hQ : Q () s) : wpAny M A (letOwnedTupleGo tg (.ref it) u) Q E s := by
  unfold letOwnedTupleGo
  cases tg <;> first
    | exact wpAny_pure hQ
    | (cases u <;> first
        | exact wpAny_pure hQ
        | (refine wpAny_bind (wpAny_load ho ?_)
           rw [hc, hd]
           show wpAny M A (if (["enumerate", "zip", "dict_itemiterator", "dict_reverseitemiterator", "odict_iterator", "itertools.zip_longest", "itertools.pairwise"].contains n && vs[0]? == some (rawInt _)) = true then _ else _) Q E s
           rw [if_neg (by intro h; rw [hn, Bool.false_and] at h; cases h)]
           exact wpAny_pure hQ))

noncomputable def Itl (K : PySem.W.Frag) (a : Addr) : It :=
  ⟨fun i H => ∃ xs x, SqL K H a xs ∧ xs[i]? = some x, fun i H x H' => H' = H ∧ ∀ xs, SqL K H a xs → xs[i]? = some x, fun i H => ∃ xs, SqL K H a xs ∧ xs.length ≤ i⟩
noncomputable def Itr (lo : Int) (n : Nat) : It := ⟨fun i _ => i < n, fun i H x H' => H' = H ∧ x = .int (lo + i), fun i _ => n ≤ i⟩
theorem turn_list {P : Program} {w : World} {K : PySem.W.Frag} {tg : Expr} (a it : Addr) : Turn P w K tg (Itl K a) [it] it (fun i h => h.IsListIter it a i) where
  mem := by simp
  obj := fun i h st b hb => by
    have e : b = it := by simpa using hb
    subst e
    obtain ⟨o, e, c, d⟩ := st
    exact ⟨o, e, fun v z => by rw [d] at z; cases z⟩
  keep := fun i h h' st k => st.at fun o e => k it (by simp) o e
  item := by
    intro X hP hw hK hc i pins s σ H E I hf st hg
    subst hP hw hK
    obtain ⟨xs, x, hq, hx⟩ := hg
    obtain ⟨its, rv, p, hz⟩ := I.list hq
    obtain ⟨u, hu, ru⟩ := rv.get hx
    obtain ⟨f0, f1, f2, f3, f4, f5⟩ := hf it (by simp)
    refine wpAny_pyNext_list_item st p.isList (x := u) (by simpa using hu) fun h' st' sb => ?_
    have I1 : Inv X pins σ H { s with heap := h' } := I.turned (t' := s.toks) (fun b o hb e => (sb.2 b hb).trans e) f0 f1 f3 f4 f5
    obtain ⟨o, e, c, d⟩ := id st'
    exact ⟨u, rfl, go_of (s := { s with heap := h' }) e c d (by decide) ⟨x, H, I1, ru, ⟨rfl, fun ys hy => by rw [I.list_inj hy hq]; exact hx⟩, st', fun b hb => (hf b hb).1⟩⟩
  done := by
    intro X hP hw hK hc i pins s σ H E I hf st hg
    subst hP hw hK
    obtain ⟨xs, hq, hx⟩ := hg
    obtain ⟨its, rv, p, hz⟩ := I.list hq
    obtain ⟨f0, f1, f2, f3, f4, f5⟩ := hf it (by simp)
    have hl := rv.length
    exact wpAny_pyNext_list_end (I.ok.hd hc) st p.isList (by simp; omega) fun h' eb => ⟨rfl, I.turned (t' := s.toks) (fun b o hb e => eb b o hb e) f0 f1 f3 f4 f5⟩
  self := fun _ _ _ _ _ st h => wpAny_pyIter_listiter st h
theorem turn_range {P : Program} {w : World} {K : PySem.W.Frag} {tg : Expr} (it : Addr) (lo : Int) (n : Nat) : Turn P w K tg (Itr lo n) [it] it (fun i h => IsRangeIter h it (lo + (i : Nat) * 1) ((n : Int) - (i : Nat)) 1) where
  mem := by simp
  obj := fun i h st b hb => by
    have e : b = it := by simpa using hb
    subst e
    exact ⟨_, st, fun v z => by
      have z' : Data.fields _ = Data.cell v := z
      cases z'⟩
  keep := fun i h h' st k => k it (by simp) _ st
  item := by
    intro X hP hw hK hc i pins s σ H E I hf st hg
    subst hP hw hK
    obtain ⟨f0, f1, f2, f3, f4, f5⟩ := hf it (by simp)
    have W := Walks.range (prog := X.prog) (w := X.w) (I.ok.hd hc) it lo 1 n
    refine W.item i s _ _ hg st fun v h' tk hv st' kk => ?_
    obtain ⟨t, rfl⟩ := hv
    have I1 : Inv X pins σ H { s with heap := h', toks := tk } := I.turned (fun b o hb e => kk b o (by simpa using hb) e) f0 f1 f3 f4 f5
    refine ⟨_, rfl, go_of (s := { s with heap := h', toks := tk }) (n := "range_iterator") st' rfl rfl (by decide) ⟨.int (lo + i), H, I1, ⟨t, ?_⟩, ⟨rfl, rfl⟩, st', fun b hb => (hf b hb).1⟩⟩
    rw [Int.mul_one]
  done := by
    intro X hP hw hK hc i pins s σ H E I hf st hg
    subst hP hw hK
    obtain ⟨f0, f1, f2, f3, f4, f5⟩ := hf it (by simp)
    exact wpAny_pyNext_range_end (I.ok.hd hc) st (by have : n ≤ i := hg; omega) fun h' eb => ⟨rfl, I.turned (t' := s.toks) (fun b o hb e => eb b o hb e) f0 f1 f3 f4 f5⟩
  self := fun _ _ _ _ _ st h => wpAny_pyIter_rangeiter st h
end L2

namespace L2
open PySem PySem.Spec PyProof.Rows
section
variable {X : Cx} {tg : Expr}
noncomputable def iList (K : PySem.W.Frag) (tl : TE) : TI := fun σ H R => tl σ H fun x H1 => ∃ a, x = .ref a ∧ (∃ xs, SqL K H1 a xs) ∧ R (Itl K a) H1
theorem pi_list {l : Expr} {tl : TE} (hl : PE X l tl) : PI X tg l (iList X.K tl) := by
  intro pins s σ H R I h
  refine thn (hl pins s σ H _ I h) fun v s1 hpat => ?_
  obtain ⟨x, H1, I1, r1, q1⟩ := hpat
  obtain ⟨a, e, ⟨xs, hq⟩, q⟩ := q1
  subst e
  cases r1
  obtain ⟨its, rv, p, hz⟩ := I1.list hq
  refine wpAny_pyIter_list p.isList ?_
  refine ⟨s1.heap.objs.size, [s1.heap.objs.size], _, _, H1, rfl, I1.kept (t' := s1.toks) fun b o e => Heap.get?_push_of_some _ e, turn_list a _, ⟨_, Heap.get?_push_size _ rfl, rfl, rfl⟩, fun b hb => ?_, q⟩
  have e : b = s1.heap.objs.size := by simpa using hb
  subst e
  exact I1.fpOk (Nat.le_refl _) (I1.hok.fresh (Nat.le_refl _))
theorem range_it {pins : List (Addr × Obj)} {σ : St} {H : Hp} {s : Shared} {R : It → Hp → Prop} {E : Value → Shared → Prop} {lo hi : Int} {t u v : Tok} {tk : Nat} (I : Inv X pins σ H s) (h1 : -(2 ^ 62) ≤ lo) (h2 : lo < 2 ^ 62) (h3 : -(2 ^ 62) ≤ hi) (h4 : hi < 2 ^ 62)
    (q : R (Itr lo (hi - lo).toNat) H) : wpAny (model X.prog X.w) X.A (pyIter (.ref s.heap.objs.size)) (PIE X pins σ tg R) E { s with heap := s.heap.push { cls := .type "range", data := .fields #[.int lo t, .int hi u, .int 1 v] }, toks := tk } := by
  refine wpAny_pyIter_range (IsRange.new ..) (small_one h1 h2 h3 h4) ?_
  have I1 : Inv X pins σ H { s with heap := s.heap.push { cls := .type "range", data := .fields #[.int lo t, .int hi u, .int 1 v] }, toks := tk } := I.kept fun b o e => Heap.get?_push_of_some _ e
  refine ⟨(s.heap.push { cls := .type "range", data := .fields #[.int lo t, .int hi u, .int 1 v] }).objs.size, [(s.heap.push { cls := .type "range", data := .fields #[.int lo t, .int hi u, .int 1 v] }).objs.size], _, _, H, rfl,
    I1.kept (t' := tk) fun b o e => Heap.get?_push_of_some _ e, turn_range _ lo (hi - lo).toNat, ?_, fun b hb => ?_, q⟩
  · have e1 : lo + ((0 : Nat) : Int) * 1 = lo := by simp
    have e2 : (((hi - lo).toNat : Nat) : Int) - ((0 : Nat) : Int) = Builtin.Range.rangeSize lo hi 1 := by rw [rangeSize_one]; split <;> omega
    show IsRangeIter _ _ (lo + ((0 : Nat) : Int) * 1) ((((hi - lo).toNat : Nat) : Int) - ((0 : Nat) : Int)) 1
    rw [e1, e2]
    exact Heap.get?_push_size _ rfl
  · have e : b = (s.heap.push { cls := .type "range", data := .fields #[.int lo t, .int hi u, .int 1 v] }).objs.size := by simpa using hb
    subst e
    exact I1.fpOk (Nat.le_refl _) (I1.hok.fresh (Nat.le_refl _))
noncomputable def iRng1 (ta : TA) : TI := fun σ H R => ta σ H fun vs H1 => ∃ j : Int, vs = [.int j] ∧ -(2 ^ 62) ≤ j ∧ j < 2 ^ 62 ∧ R (Itr 0 j.toNat) H1
noncomputable def iRng2 (ta : TA) : TI := fun σ H R => ta σ H fun vs H1 => ∃ i j : Int, vs = [.int i, .int j] ∧ (-(2 ^ 62) ≤ i ∧ i < 2 ^ 62 ∧ -(2 ^ 62) ≤ j ∧ j < 2 ^ 62) ∧ R (Itr i (j - i).toNat) H1
theorem pi_range1 {a : Expr} {ta : TA} {p pos : Pos} (hg : Gl X "range") (hm : X.mg "range" = none) (ha : PA X [a] ta) (hs : starEach [a] X.env = [(false, eval a X.env)] := by rfl) : PI X tg (.Call (.Name "range" p) [a] [] pos) (iRng1 ta) := by
  intro pins s σ H R I h
  refine Call_ (ld_blt I hg hm boot_range (PyProof.Rows.callWith_type1 (thn (ha pos pins s σ H _ I h) fun us s1 hpat => ?_) hs rfl))
  obtain ⟨vs, H1, I1, r1, q1⟩ := hpat
  obtain ⟨j, e, q1, q2, q⟩ := q1
  subst e
  cases r1 with
  | cons r rr =>
    cases rr
    obtain ⟨t, rfl⟩ := r
    exact call_range_1 (range_it I1 (by omega) (by omega) q1 q2 (by simpa using q))
theorem pi_range2 {a b : Expr} {ta : TA} {p pos : Pos} (hg : Gl X "range") (hm : X.mg "range" = none) (ha : PA X [a, b] ta) (hs : starEach [a, b] X.env = [(false, eval a X.env), (false, eval b X.env)] := by rfl) (hs2 : starEach [b] X.env = [(false, eval b X.env)] := by rfl) :
    PI X tg (.Call (.Name "range" p) [a, b] [] pos) (iRng2 ta) := by
  intro pins s σ H R I h
  refine Call_ (ld_blt I hg hm boot_range (PyProof.Rows.callWith_type1 (thn (ha pos pins s σ H _ I h) fun us s1 hpat => ?_) (by rw [hs, hs2]) (by rw [hs2]; rfl)))
  obtain ⟨vs, H1, I1, r1, q1⟩ := hpat
  obtain ⟨i, j, e, ⟨q1, q2, q3, q4⟩, q⟩ := q1
  subst e
  cases r1 with
  | cons r rr =>
    cases rr with
    | cons r' rr =>
      cases rr
      obtain ⟨t, rfl⟩ := r
      obtain ⟨t', rfl⟩ := r'
      exact call_range_2 (range_it I1 q1 q2 q3 q4 q)

noncomputable def tFor (wi : TI) (g : TG) (tb : TS) : TS := fun D σ H => wi σ H fun J H1 => ∃ W : Nat → Nat → St → Hp → Prop, (∃ m, W 0 m σ H1) ∧ ∀ i m σ H, W i m σ H →
  (J.stop i H ∧ D.nx σ H) ∨ (J.go i H ∧ ∃ N : St → Hp → Prop, (∀ σ' H', N σ' H' → ∃ m', m' < m ∧ W (i + 1) m' σ' H') ∧ ∀ x H', J.yld i H x H' → g x σ H' fun σ2 H2 => tb { D with nx := N, ct := N, bk := D.nx } σ2 H2)
noncomputable def pinsAt (fp : List Addr) (h : Heap) : List (Addr × Obj) := fp.filterMap fun b => (h.get? b).map fun o => (b, o)
theorem mem_pinsAt {fp : List Addr} {h : Heap} {b : Addr} {o : Obj} (hb : b ∈ fp) (e : h.get? b = some o) : (b, o) ∈ pinsAt fp h := List.mem_filterMap.mpr ⟨b, hb, by rw [e]; rfl⟩
theorem of_pinsAt {fp : List Addr} {h : Heap} {p : Addr × Obj} (hp : p ∈ pinsAt fp h) : p.1 ∈ fp ∧ h.get? p.1 = some p.2 := by
  obtain ⟨b, hb, e⟩ := List.mem_filterMap.mp hp
  cases q : h.get? b with
  | none => rw [q] at e; cases e
  | some o =>
    rw [q] at e
    have e' : (b, o) = p := Option.some.inj e
    subst e'
    exact ⟨hb, q⟩
theorem Inv.pinned {pins : List (Addr × Obj)} {σ : St} {H : Hp} {s : Shared} {fp : List Addr} (I : Inv X pins σ H s) (hf : ∀ b ∈ fp, FpOk X pins H b) (ho : ∀ b ∈ fp, ∃ o, s.heap.get? b = some o ∧ ∀ v, o.data ≠ .cell v) : Inv X (pins ++ pinsAt fp s.heap) σ H s :=
  I.pins_of fun p hp => (List.mem_append.mp hp).elim (fun z => I.pin p (List.mem_append_right _ z)) fun z => by
    obtain ⟨hb, e⟩ := of_pinsAt z
    obtain ⟨f0, f1, f2, _⟩ := hf p.1 hb
    obtain ⟨o, e', d⟩ := ho p.1 hb
    rw [e] at e'; cases e'
    exact ⟨e, f0, f1, f2, d⟩
theorem Inv.unpinned {pins pl : List (Addr × Obj)} {σ : St} {H : Hp} {s : Shared} (I : Inv X (pins ++ pl) σ H s) : Inv X pins σ H s := I.pins_of fun p hp => I.pin p (List.mem_append_right _ (List.mem_append_left _ hp))
theorem ps_for {iter : Expr} {body : List Stmt} {wi : TI} {g : TG} {tb : TS} {pos : Pos} (hp : PassesOwn (model X.prog X.w) X.A X.env X.xe) (hc : X.calm = true) (hi : PI X tg iter wi) (hg : PG X tg g) (hb : PSs X body tb)
    (hs : ∀ x, foldedSetIterable iter X.env x = pure x := by intro _; rfl) : PS X (.For tg iter body [] pos) (tFor wi g tb) := by
  intro pins s σ H D I h
  refine wpAny_For (thn (hi pins s σ H _ I h) fun v s1 h1 => thn h1 fun itv s2 h2 => ?_) hs
  obtain ⟨it, fp, tn, J, H2, e, I2, T, st2, f2, W, ⟨m0, w0⟩, turn⟩ := h2
  subst e
  -- what stays true of the iterator's objects through the loop
  have stat : ∀ {H' : Hp}, (∀ b ∈ fp, H' b = none) → ∀ b ∈ fp, FpOk X pins H' b := fun hn b hb => ⟨hn b hb, (f2 b hb).2⟩
  refine codeAny_forLoop_any (fun n s' => ∃ i σ' H', Inv X pins σ' H' s' ∧ tn i s'.heap ∧ (∀ b ∈ fp, H' b = none) ∧ W i n σ' H') ?_ m0 ⟨0, σ, H2, I2, st2, fun b hb => (f2 b hb).1, w0⟩
  rintro n s3 ⟨i, σ3, H3, I3, st3, fr3, w3⟩
  rcases turn i n σ3 H3 w3 with ⟨stop, qn⟩ | ⟨go, N, hN, step⟩
  · refine wpAny_passesOwn hp (thn (T.done X rfl rfl rfl hc i pins s3 σ3 H3 X.xe I3 (stat fr3) st3 stop) fun r s4 ⟨hr, I4⟩ => ?_)
    subst hr
    exact wpAny_execs_nil ⟨σ3, H3, I4, qn⟩
  · refine wpAny_passesOwn hp (thn (T.item X rfl rfl rfl hc i pins s3 σ3 H3 X.xe I3 (stat fr3) st3 go) fun r s4 ⟨u, hr, h4⟩ => ?_)
    subst hr
    refine wpAny_passesOwn hp (thn h4 fun _ s5 hpat => ?_)
    obtain ⟨x, H5, I5, r5, y5, st5, fr5⟩ := hpat
    have I5' := I5.pinned (stat fr5) (T.obj _ _ st5)
    refine wpAny_passesOwn hp (thn (hg _ s5 σ3 H5 x u _ I5' r5 (step x H5 y5)) fun _ s6 hpat => ?_)
    obtain ⟨σ6, H6, I6, q6⟩ := hpat
    refine wpAny_passesOwn hp (thn (hb _ s6 σ6 H6 _ I6 q6) fun f s7 q7 => ?_)
    have again : ∀ {σ7 : St} {H7 : Hp}, Inv X (pins ++ pinsAt fp s5.heap) σ7 H7 s7 → N σ7 H7 → ∃ m, m < n ∧ ∃ i σ' H', Inv X pins σ' H' s7 ∧ tn i s7.heap ∧ (∀ b ∈ fp, H' b = none) ∧ W i m σ' H' := fun {σ7 H7} I7 n7 => by
      obtain ⟨m', hm, w7⟩ := hN σ7 H7 n7
      refine ⟨m', hm, i + 1, σ7, H7, I7.unpinned, T.keep _ _ _ st5 fun b hb o e => (I7.pin (b, o) (List.mem_append_right _ (List.mem_append_right _ (mem_pinsAt hb e)))).1, fun b hb => ?_, w7⟩
      obtain ⟨o, e, d⟩ := T.obj _ _ st5 b hb
      exact (I7.pin (b, o) (List.mem_append_right _ (List.mem_append_right _ (mem_pinsAt hb e)))).2.1
    cases f with
    | next => obtain ⟨σ7, H7, I7, n7⟩ := q7; exact again I7 n7
    | cont => obtain ⟨σ7, H7, I7, n7⟩ := q7; exact again I7 n7
    | brk => obtain ⟨σ7, H7, I7, q7⟩ := q7; exact ⟨σ7, H7, I7.unpinned, q7⟩
    | ret v => obtain ⟨x7, σ7, H7, I7, r7, q7⟩ := q7; exact ⟨x7, σ7, H7, I7.unpinned, r7, q7⟩
end

end L2

namespace L2
open PySem PySem.Spec PyProof.Rows

noncomputable abbrev R2 := V → V → Hp → VK → Prop
noncomputable def OpR (X : Cx) (f : Value → Value → Sem Value) (r : R2) : Prop :=
  ∀ (pins : List (Addr × Obj)) (s : Shared) (σ : St) (H : Hp) (x y : V) (v u : Value) (Q : VK), Inv X pins σ H s → RelV x v → RelV y u → r x y H Q →
    wpAny (model X.prog X.w) X.A (f v u) (EP X pins σ Q) X.xe s
noncomputable def UnR (X : Cx) (f : Value → Sem Value) (r : V → Hp → VK → Prop) : Prop :=
  ∀ (pins : List (Addr × Obj)) (s : Shared) (σ : St) (H : Hp) (x : V) (v : Value) (Q : VK), Inv X pins σ H s → RelV x v → r x H Q →
    wpAny (model X.prog X.w) X.A (f v) (EP X pins σ Q) X.xe s
noncomputable def CallR (X : Cx) (f : Value) (r : List V → Hp → VK → Prop) : Prop :=
  ∀ (pins : List (Addr × Obj)) (s : Shared) (σ : St) (H : Hp) (xs : List V) (us : List Value) (Q : VK), Inv X pins σ H s → Vals xs us → r xs H Q →
    wpAny (model X.prog X.w) X.A (call f us) (EP X pins σ Q) X.xe s
noncomputable def TruR (X : Cx) (r : V → Hp → (Bool → Hp → Prop) → Prop) : Prop :=
  ∀ (pins : List (Addr × Obj)) (s : Shared) (σ : St) (H : Hp) (x : V) (v : Value) (Q : Bool → Hp → Prop), Inv X pins σ H s → RelV x v → r x H Q →
    wpAny (model X.prog X.w) X.A (truthy v) (TP X pins σ Q) X.xe s

noncomputable def tOp (r : R2) (ta tb : TE) : TE := fun σ H Q => ta σ H fun x H1 => tb σ H1 fun y H2 => r x y H2 Q
noncomputable def tUn (r : V → Hp → VK → Prop) (ta : TE) : TE := fun σ H Q => ta σ H fun x H1 => r x H1 Q
noncomputable def rI (C : Int → Int → Prop) (g : Int → Int → V) : R2 := fun x y H Q => ∃ i j, x = .int i ∧ y = .int j ∧ C i j ∧ Q (g i j) H
noncomputable def rI0 (g : Int → Int → V) : R2 := fun x y H Q => ∃ i j, x = .int i ∧ y = .int j ∧ Q (g i j) H
noncomputable def rU (g : Int → V) : V → Hp → VK → Prop := fun x H Q => ∃ i, x = .int i ∧ Q (g i) H

section
variable {X : Cx} {a b c : Expr} {ta tb tc : TE} {pos : Pos}

theorem binT (ha : PE X a ta) (hb : PE X b tb) {pins : List (Addr × Obj)} {s : Shared} {σ : St} {H : Hp} {R : V → V → Hp → Prop} (I : Inv X pins σ H s)
    (h : ta σ H fun x H1 => tb σ H1 fun y H2 => R x y H2) {Q : Value → Shared → Prop} {f : Value → Value → Sem Value}
    (hf : ∀ v u s2 x y H2, Inv X pins σ H2 s2 → RelV x v → RelV y u → R x y H2 → wpAny (model X.prog X.w) X.A (f v u) Q X.xe s2) :
    wpAny (model X.prog X.w) X.A (eval a X.env) (fun v s₁ => wpAny (model X.prog X.w) X.A (eval b X.env) (fun u s₂ => wpAny (model X.prog X.w) X.A (f v u) Q X.xe s₂) X.xe s₁) X.xe s := by
  refine thn (ha pins s σ H _ I h) fun v s1 hpat => ?_
  obtain ⟨x, H1, I1, r1, q1⟩ := hpat
  refine thn (hb pins s1 σ H1 _ I1 q1) fun u s2 hpat => ?_
  obtain ⟨y, H2, I2, r2, q2⟩ := hpat
  exact hf v u s2 x y H2 I2 r1 r2 q2

theorem pe_op {op : Operator} {r : R2} (ho : OpR X (binaryOp op) r) (ha : PE X a ta) (hb : PE X b tb) : PE X (.BinOp a op b pos) (tOp r ta tb) := by
  intro pins s σ H Q I h
  exact wpAny_BinOp (binT ha hb I h fun v u s2 x y H2 I2 rx ry q => ho pins s2 σ H2 x y v u Q I2 rx ry q)
theorem pe_un {op : UnaryOp} {r : V → Hp → VK → Prop} (ho : UnR X (unaryOp op) r) (ha : PE X a ta) : PE X (.UnaryOp op a pos) (tUn r ta) := by
  intro pins s σ H Q I h
  exact UnaryOp_ (thn (ha pins s σ H _ I h) fun v s1 ⟨x, H1, I1, r1, q1⟩ => ho pins s1 σ H1 x v Q I1 r1 q1)
theorem opI {f : Value → Value → Sem Value} {C : Int → Int → Prop} {g : Int → Int → Int}
    (rule : ∀ (i j : Int) (t u : Tok) (s : Shared) (Q : Value → Shared → Prop) (E : Value → Shared → Prop), C i j → Q (.int (g i j) s.toks) { s with toks := s.toks + 1 } → wpAny (model X.prog X.w) X.A (f (.int i t) (.int j u)) Q E s) :
    OpR X f (rI C fun i j => .int (g i j)) := by
  intro pins s σ H x y v u Q I rx ry h
  obtain ⟨i, j, rfl, rfl, hc, q⟩ := h
  obtain ⟨t, rfl⟩ := rx
  obtain ⟨t', rfl⟩ := ry
  exact rule i j t t' s _ _ hc ⟨.int (g i j), H, I.tok _, ⟨_, rfl⟩, q⟩
theorem opI0 {f : Value → Value → Sem Value} {g : Int → Int → Int}
    (rule : ∀ (i j : Int) (t u : Tok) (s : Shared) (Q : Value → Shared → Prop) (E : Value → Shared → Prop), Q (.int (g i j) s.toks) { s with toks := s.toks + 1 } → wpAny (model X.prog X.w) X.A (f (.int i t) (.int j u)) Q E s) :
    OpR X f (rI0 fun i j => .int (g i j)) := by
  intro pins s σ H x y v u Q I rx ry h
  obtain ⟨i, j, rfl, rfl, q⟩ := h
  obtain ⟨t, rfl⟩ := rx
  obtain ⟨t', rfl⟩ := ry
  exact rule i j t t' s _ _ ⟨.int (g i j), H, I.tok _, ⟨_, rfl⟩, q⟩
theorem opB0 {f : Value → Value → Sem Value} {g : Int → Int → Bool}
    (rule : ∀ (i j : Int) (t u : Tok) (s : Shared) (Q : Value → Shared → Prop) (E : Value → Shared → Prop), Q (.bool (g i j)) s → wpAny (model X.prog X.w) X.A (f (.int i t) (.int j u)) Q E s) :
    OpR X f (rI0 fun i j => .bl (g i j)) := by
  intro pins s σ H x y v u Q I rx ry h
  obtain ⟨i, j, rfl, rfl, q⟩ := h
  obtain ⟨t, rfl⟩ := rx
  obtain ⟨t', rfl⟩ := ry
  exact rule i j t t' s _ _ ⟨.bl (g i j), H, I, rfl, q⟩

noncomputable def CDiv (i j : Int) : Prop := 0 < j ∧ j < 1073741824
noncomputable def CPow (i j : Int) : Prop := 0 ≤ j ∧ j ≤ 1000000 ∧ i.natAbs < 2 ^ 64
noncomputable def CMul (i j : Int) : Prop := (-(2 ^ 64) < i ∧ i < 2 ^ 64) ∨ (-(2 ^ 64) < j ∧ j < 2 ^ 64)
theorem CMul.ok {i j : Int} (h : CMul i j) : IntMulOk i j := by
  rcases h with ⟨h1, h2⟩ | ⟨h1, h2⟩
  · exact .of_left (intBits_le_64 h1 h2)
  · exact .of_right (intBits_le_64 h1 h2)
theorem two_pow_nn (k : Nat) : (0 : Int) ≤ 2 ^ k := by
  rw [two_pow_cast]
  exact Int.natCast_nonneg _

theorem op_add : OpR X (binaryOp .Add) (rI0 fun i j => .int (i + j)) := opI0 fun _ _ _ _ _ _ _ q => add_int q
theorem op_sub : OpR X (binaryOp .Sub) (rI0 fun i j => .int (i - j)) := opI0 fun _ _ _ _ _ _ _ q => sub_int q
theorem op_mul : OpR X (binaryOp .Mult) (rI CMul fun i j => .int (i * j)) := opI fun _ _ _ _ _ _ _ hc q => mul_int q hc.ok
theorem op_fdiv : OpR X (binaryOp .FloorDiv) (rI CDiv fun i j => .int (i / j)) := opI fun i j _ _ _ _ _ hc q => by
  have h1 : (0 : Int) < j := hc.1
  have h2 : j < 1073741824 := hc.2
  exact floordiv_int (by omega) (by rw [Int.fdiv_eq_ediv_of_nonneg i (by omega)]; exact q) (.inl (PyProof.noPylong_small (by omega)))
theorem op_mod : OpR X (binaryOp .Mod) (rI (fun _ j => 0 < j) fun i j => .int (i % j)) := opI fun i j _ _ _ _ _ hc q => by
  have h1 : (0 : Int) < j := hc
  exact mod_int' (by omega) (by rw [Int.fmod_eq_emod_of_nonneg i (by omega)]; exact q)
theorem op_pow : OpR X (binaryOp .Pow) (rI CPow fun i j => .int (i ^ j.toNat)) := opI fun _ _ _ _ _ _ _ hc q => pow_int_small hc.1 hc.2.1 hc.2.2 q
theorem op_shr : OpR X (binaryOp .RShift) (rI (fun _ j => 0 ≤ j) fun i j => .int (i / 2 ^ j.toNat)) := opI fun i j _ _ _ _ _ hc q =>
  rshift_int hc (by rw [Int.fdiv_eq_ediv_of_nonneg i (two_pow_nn _)]; exact q)
theorem op_and : OpR X (binaryOp .BitAnd) (rI0 fun i j => .int (Builtin.bitAnd i j)) := opI0 fun _ _ _ _ _ _ _ q => and_int q
theorem unI {f : Value → Sem Value} {g : Int → Int}
    (rule : ∀ (i : Int) (t : Tok) (s : Shared) (Q : Value → Shared → Prop) (E : Value → Shared → Prop), Q (.int (g i) s.toks) { s with toks := s.toks + 1 } → wpAny (model X.prog X.w) X.A (f (.int i t)) Q E s) :
    UnR X f (rU fun i => .int (g i)) := by
  intro pins s σ H x v Q I rx h
  obtain ⟨i, rfl, q⟩ := h
  obtain ⟨t, rfl⟩ := rx
  exact rule i t s _ _ ⟨.int (g i), H, I.tok _, ⟨_, rfl⟩, q⟩
theorem un_neg : UnR X (unaryOp .USub) (rU fun i => .int (-i)) := unI fun _ _ _ _ _ q => neg_int q
end

noncomputable def scal : V → V → Bool
  | .non, .non => true | .non, .int _ => true | .int _, .non => true | .non, .bl _ => true | .bl _, .non => true | .non, .str _ => true | .str _, .non => true
  | .int _, .int _ => true | .bl _, .bl _ => true | .str _, .str _ => true | .byt _, .byt _ => true
  | .int _, .str _ => true | .str _, .int _ => true | .bl _, .str _ => true | .str _, .bl _ => true
  | _, _ => false
noncomputable def rEq : R2 := fun x y H Q => scal x y = true ∧ Q (.bl (decide (x = y))) H
noncomputable def rNe : R2 := fun x y H Q => scal x y = true ∧ Q (.bl (!decide (x = y))) H

theorem dec_int {i j : Int} : decide (V.int i = V.int j) = (i == j) := by
  rw [Bool.eq_iff_iff]
  simp
theorem dec_bl {i j : Bool} : decide (V.bl i = V.bl j) = (i == j) := by
  rw [Bool.eq_iff_iff]
  simp
theorem dec_str {i j : Str} : decide (V.str i = V.str j) = (i == j) := by
  rw [Bool.eq_iff_iff]
  simp
theorem dec_byt {i j : Array UInt8} : decide (V.byt i = V.byt j) = (i.toList == j.toList) := by
  rw [Bool.eq_iff_iff]
  cases i
  cases j
  simp

section
variable {X : Cx} {a b c : Expr} {ta tb tc : TE} {pos : Pos}
theorem fin_bl {pins : List (Addr × Obj)} {σ : St} {H : Hp} {s : Shared} {Q : VK} {k k' : Bool} (I : Inv X pins σ H s) (q : Q (.bl k) H) (e : k = k') : EP X pins σ Q (.bool k') s := by
  subst e
  exact ⟨.bl k, H, I, rfl, q⟩
theorem op_eq : OpR X (compareOp .Eq) rEq := by
  intro pins s σ H x y v u Q I rx ry h
  obtain ⟨hs, q⟩ := h
  cases x with
  | non =>
    cases rx
    cases y with
    | non => cases ry; exact PySem.EqNone.eq_none_none (fin_bl I q (by simp))
    | bl j => cases ry; exact PySem.EqNone.eq_none_bool (fin_bl I q (by simp))
    | int j => obtain ⟨t', rfl⟩ := ry; exact PySem.EqNone.eq_none_int (fin_bl I q (by simp))
    | str j => obtain ⟨t', rfl⟩ := ry; exact PySem.EqNone.eq_none_str (fin_bl I q (by simp))
    | _ => exact absurd (show false = true from hs) Bool.false_ne_true
  | bl i =>
    cases rx
    cases y with
    | non => cases ry; exact PySem.EqNone.eq_bool_none (fin_bl I q (by simp))
    | bl j => cases ry; exact eq_bool (fin_bl I q dec_bl)
    | str j => obtain ⟨t', rfl⟩ := ry; exact PySem.EqMixed.eq_bool_str (fin_bl I q (by simp))
    | _ => exact absurd (show false = true from hs) Bool.false_ne_true
  | int i =>
    obtain ⟨t, rfl⟩ := rx
    cases y with
    | non => cases ry; exact PySem.EqNone.eq_int_none (fin_bl I q (by simp))
    | int j => obtain ⟨t', rfl⟩ := ry; exact eq_int (fin_bl I q dec_int)
    | str j => obtain ⟨t', rfl⟩ := ry; exact PySem.EqMixed.eq_int_str (fin_bl I q (by simp))
    | _ => exact absurd (show false = true from hs) Bool.false_ne_true
  | str i =>
    obtain ⟨t, rfl⟩ := rx
    cases y with
    | non => cases ry; exact PySem.EqNone.eq_str_none (fin_bl I q (by simp))
    | bl j => cases ry; exact PySem.EqMixed.eq_str_bool (fin_bl I q (by simp))
    | int j => obtain ⟨t', rfl⟩ := ry; exact PySem.EqMixed.eq_str_int (fin_bl I q (by simp))
    | str j => obtain ⟨t', rfl⟩ := ry; exact eq_str (fin_bl I q dec_str)
    | _ => exact absurd (show false = true from hs) Bool.false_ne_true
  | byt i =>
    obtain ⟨t, rfl⟩ := rx
    cases y with
    | byt j => obtain ⟨t', rfl⟩ := ry; exact PySem.W.eq_bytes (fin_bl I q dec_byt)
    | _ => exact absurd (show false = true from hs) Bool.false_ne_true
  | _ => cases y <;> exact absurd (show false = true from hs) Bool.false_ne_true
theorem op_ne : OpR X (compareOp .NotEq) rNe := by
  intro pins s σ H x y v u Q I rx ry h
  obtain ⟨hs, q⟩ := h
  cases x with
  | non =>
    cases rx
    cases y with
    | non => cases ry; exact PySem.EqNone.ne_none_none (fin_bl I q (by simp))
    | bl j => cases ry; exact PySem.EqNone.ne_none_bool (fin_bl I q (by simp))
    | int j => obtain ⟨t', rfl⟩ := ry; exact PySem.EqNone.ne_none_int (fin_bl I q (by simp))
    | str j => obtain ⟨t', rfl⟩ := ry; exact PySem.EqNone.ne_none_str (fin_bl I q (by simp))
    | _ => exact absurd (show false = true from hs) Bool.false_ne_true
  | bl i =>
    cases rx
    cases y with
    | non => cases ry; exact PySem.EqNone.ne_bool_none (fin_bl I q (by simp))
    | bl j => cases ry; exact ne_bool (fin_bl I q (congrArg not dec_bl))
    | str j => obtain ⟨t', rfl⟩ := ry; exact PySem.EqMixed.ne_bool_str (fin_bl I q (by simp))
    | _ => exact absurd (show false = true from hs) Bool.false_ne_true
  | int i =>
    obtain ⟨t, rfl⟩ := rx
    cases y with
    | non => cases ry; exact PySem.EqNone.ne_int_none (fin_bl I q (by simp))
    | int j => obtain ⟨t', rfl⟩ := ry; exact ne_int (fin_bl I q (congrArg not dec_int))
    | str j => obtain ⟨t', rfl⟩ := ry; exact PySem.EqMixed.ne_int_str (fin_bl I q (by simp))
    | _ => exact absurd (show false = true from hs) Bool.false_ne_true
  | str i =>
    obtain ⟨t, rfl⟩ := rx
    cases y with
    | non => cases ry; exact PySem.EqNone.ne_str_none (fin_bl I q (by simp))
    | bl j => cases ry; exact PySem.EqMixed.ne_str_bool (fin_bl I q (by simp))
    | int j => obtain ⟨t', rfl⟩ := ry; exact PySem.EqMixed.ne_str_int (fin_bl I q (by simp))
    | str j => obtain ⟨t', rfl⟩ := ry; exact ne_str (fin_bl I q (congrArg not dec_str))
    | _ => exact absurd (show false = true from hs) Bool.false_ne_true
  | byt i =>
    obtain ⟨t, rfl⟩ := rx
    cases y with
    | byt j => obtain ⟨t', rfl⟩ := ry; exact PySem.W.ne_bytes (fin_bl I q (congrArg not dec_byt))
    | _ => exact absurd (show false = true from hs) Bool.false_ne_true
  | _ => cases y <;> exact absurd (show false = true from hs) Bool.false_ne_true

theorem op_lt : OpR X (compareOp .Lt) (rI0 fun i j => .bl (decide (i < j))) := opB0 fun _ _ _ _ _ _ _ q => lt_int q
theorem op_le : OpR X (compareOp .LtE) (rI0 fun i j => .bl (decide (i ≤ j))) := opB0 fun _ _ _ _ _ _ _ q => le_int q
theorem op_gt : OpR X (compareOp .Gt) (rI0 fun i j => .bl (decide (j < i))) := opB0 fun _ _ _ _ _ _ _ q => gt_int q
theorem op_ge : OpR X (compareOp .GtE) (rI0 fun i j => .bl (decide (j ≤ i))) := opB0 fun _ _ _ _ _ _ _ q => ge_int q
theorem OpR.or {f : Value → Value → Sem Value} {r r' : R2} (h : OpR X f r) (h' : OpR X f r') : OpR X f (fun x y H Q => r x y H Q ∨ r' x y H Q) := by
  intro pins s σ H x y v u Q I rx ry q
  rcases q with q | q
  · exact h pins s σ H x y v u Q I rx ry q
  · exact h' pins s σ H x y v u Q I rx ry q

theorem nomark (b : Expr) {op : CmpOp} (h : op ≠ .In := by decide) (h2 : op ≠ .NotIn := by decide) : behindInMarks op b = false := by
  have e1 : (op == CmpOp.In) = false := by cases op <;> first | rfl | exact absurd rfl h
  have e2 : (op == CmpOp.NotIn) = false := by cases op <;> first | rfl | exact absurd rfl h2
  cases b <;> simp [behindInMarks, e1, e2]
theorem pe_cmpR {op : CmpOp} {r : R2} (ho : OpR X (compareOp op) r) (ha : PE X a ta) (hb : PE X b tb) (hm : behindInMarks op b = false) : PE X (.Compare a [op] [b] pos) (tOp r ta tb) := by
  intro pins s σ H Q I h
  exact wpAny_Compare1 (binT ha hb I h fun v u s2 x y H2 I2 rx ry q => ho pins s2 σ H2 x y v u Q I2 rx ry q) hm
noncomputable def tTest (t : TE) : TT := fun σ H Q => t σ H fun x H' => ∃ k, x = .bl k ∧ Q k H'
theorem pt_cmpR {op : CmpOp} {r : R2} (ho : OpR X (compareOp op) r) (ha : PE X a ta) (hb : PE X b tb) (hm : behindInMarks op b = false) : PT X (.Compare a [op] [b] pos) (tTest (tOp r ta tb)) := by
  intro pins s σ H Q I h
  refine wpAny_isTrue_Compare1 (thn (ha pins s σ H _ I h) fun v s1 ⟨x, H1, I1, r1, q1⟩ => thn (hb pins s1 σ H1 _ I1 q1) fun u s2 ⟨y, H2, I2, r2, q2⟩ =>
    thn (ho pins s2 σ H2 x y v u _ I2 r1 r2 q2) fun c s3 ⟨z, H3, I3, r3, k, e, q3⟩ => ?_) hm
  subst e
  cases r3
  exact wpAny_truthy_bool ⟨H3, I3, q3⟩
noncomputable def TruV (K : PySem.W.Frag) (x : V) (H : Hp) (k : Bool) : Prop :=
  match x with
  | .non => k = false
  | .bl b => k = b
  | .int i => k = (i != 0)
  | .str y => y.length ≤ sizeLine ∧ k = ((y.length : Int) != 0)
  | .byt y => y.size ≤ sizeLine ∧ k = ((y.size : Int) != 0)
  | .ref p => (∃ xs, SqL K H p xs ∧ k = !xs.isEmpty) ∨ (∃ xs, SqT K H p xs ∧ k = !xs.isEmpty) ∨ ∃ kvs, H p = some (.dK kvs) ∧ k = !kvs.isEmpty
  | _ => False
theorem isEmpty_kv {κ : Type} {kvs : List (κ × V)} {vs : List (κ × Value)} (r : KV kvs vs) : (!vs.isEmpty) = !kvs.isEmpty := by
  cases r <;> rfl
theorem isEmpty_of {xs : List V} {its : List Value} (r : Vals xs its) : (!its.toArray.isEmpty) = !xs.isEmpty := by
  cases r <;> simp
theorem line63 : (sizeLine : Nat) < 2 ^ 63 := by rw [sizeLine_eq]; decide
theorem tru_ok : TruR X (fun x H Q => ∃ k, TruV X.K x H k ∧ Q k H) := by
  intro pins s σ H x v Q I rx h
  obtain ⟨k, e, q⟩ := h
  have hl := line63
  have hs : sizeLine = 16777216 := sizeLine_eq
  cases x with
  | non =>
    cases rx
    have e' : k = false := e
    subst e'
    exact truthy_none ⟨H, I, q⟩
  | bl b =>
    cases rx
    have e' : k = b := e
    subst e'
    exact wpAny_truthy_bool ⟨H, I, q⟩
  | int i =>
    obtain ⟨t, rfl⟩ := rx
    have e' : k = (i != 0) := e
    subst e'
    exact PySem.P.truthy_int ⟨H, I, q⟩
  | str y =>
    obtain ⟨t, rfl⟩ := rx
    obtain ⟨hy, e'⟩ : y.length ≤ sizeLine ∧ k = ((y.length : Int) != 0) := e
    subst e'
    exact PySem.P.truthy_str (by omega) ⟨H, I.tok _, q⟩
  | byt y =>
    obtain ⟨t, rfl⟩ := rx
    obtain ⟨hy, e'⟩ : y.size ≤ sizeLine ∧ k = ((y.size : Int) != 0) := e
    subst e'
    exact PySem.W.truthy_bytes (by omega) ⟨H, I.tok _, q⟩
  | ref p =>
    cases rx
    have e' : (∃ xs, SqL X.K H p xs ∧ k = !xs.isEmpty) ∨ (∃ xs, SqT X.K H p xs ∧ k = !xs.isEmpty) ∨ ∃ kvs, H p = some (.dK kvs) ∧ k = !kvs.isEmpty := e
    rcases e' with ⟨xs, hx, e'⟩ | ⟨xs, hx, e'⟩ | ⟨kvs, hx, e'⟩
    · subst e'
      obtain ⟨its, r, pl, hz⟩ := I.list hx
      have hlen := r.length
      exact wpAny_truthy_list pl.isList (by simp only [List.size_toArray]; omega) ⟨H, I.tok _, by rw [isEmpty_of r]; exact q⟩
    · subst e'
      obtain ⟨its, r, pl, hz⟩ := I.tuple hx
      have hlen := r.length
      exact truthy_tuple pl (by simp only [List.size_toArray]; omega) ⟨H, I.tok _, by rw [isEmpty_of r]; exact q⟩
    · subst e'
      obtain ⟨hz, hS, vs, r, m⟩ : kvs.length ≤ sizeLine ∧ (p == sysModules) = false ∧ ∃ vs, KV kvs vs ∧ s.heap.DictOf (mixKind X.prog X.w) p vs := I.hok p _ hx
      have hlen : kvs.length = vs.length := Paired.length r
      exact wpAny_truthy_dict hS m (by omega) ⟨H, I.tok _, by rw [isEmpty_kv r]; exact q⟩
  | _ => exact (show False from e).elim
theorem pt_truth (ha : PE X a ta) (he : ∀ whole, isTrue a X.env whole = (do let v ← whole; standAt a.pos; holding [v] (truthy v))) :
    PT X a (fun σ H Q => ta σ H fun x H' => ∃ k, TruV X.K x H' k ∧ Q k H') := by
  intro pins s σ H Q I h
  exact isTrue_plain (thn (ha pins s σ H _ I h) fun v s1 ⟨x, H1, I1, r1, q1⟩ => tru_ok pins s1 σ H1 x v Q I1 r1 q1) (he _)

theorem vals1 {x : V} {us : List Value} (r : Vals [x] us) : ∃ u, us = [u] ∧ RelV x u := by
  cases r with
  | cons r1 r2 => cases r2; exact ⟨_, rfl, r1⟩
theorem vals2 {x y : V} {us : List Value} (r : Vals [x, y] us) : ∃ u w', us = [u, w'] ∧ RelV x u ∧ RelV y w' := by
  cases r with
  | cons r1 r2 =>
    cases r2 with
    | cons r3 r4 => cases r4; exact ⟨_, _, rfl, r1, r3⟩
theorem call_abs : CallR X (.builtin "abs") (fun xs H Q => ∃ i, xs = [.int i] ∧ Q (.int (if i < 0 then -i else i)) H) := by
  intro pins s σ H xs us Q I r h
  obtain ⟨i, rfl, q⟩ := h
  obtain ⟨u, rfl, t, rfl⟩ := vals1 r
  exact call_abs_int fun u tk => ⟨.int (if i < 0 then -i else i), H, I.tok _, ⟨_, rfl⟩, q⟩
theorem call_max2 (hc : X.calm = true) : CallR X (.builtin "max") (fun xs H Q => ∃ i j, xs = [.int i, .int j] ∧ Q (.int (if j > i then j else i)) H) := by
  intro pins s σ H xs us Q I r h
  obtain ⟨i, j, rfl, q⟩ := h
  obtain ⟨u, w', rfl, ⟨t, rfl⟩, ⟨t', rfl⟩⟩ := vals2 r
  refine max_two_ints (I.ok.hd hc) fun h' tk k => ⟨_, H, I.kept k, ?_, q⟩
  by_cases hj : j > i
  · rw [if_pos hj, if_pos hj]; exact ⟨_, rfl⟩
  · rw [if_neg hj, if_neg hj]; exact ⟨_, rfl⟩
theorem call_min2 (hc : X.calm = true) : CallR X (.builtin "min") (fun xs H Q => ∃ i j, xs = [.int i, .int j] ∧ Q (.int (if j < i then j else i)) H) := by
  intro pins s σ H xs us Q I r h
  obtain ⟨i, j, rfl, q⟩ := h
  obtain ⟨u, w', rfl, ⟨t, rfl⟩, ⟨t', rfl⟩⟩ := vals2 r
  refine min_two_ints (I.ok.hd hc) fun h' tk k => ⟨_, H, I.kept k, ?_, q⟩
  by_cases hj : j < i
  · rw [if_pos hj, if_pos hj]; exact ⟨_, rfl⟩
  · rw [if_neg hj, if_neg hj]; exact ⟨_, rfl⟩
end
end L2

namespace L2
open PySem PySem.Spec PyProof.Rows

structure ObjM (h : Heap) (x dx C : Addr) (mA : Str → Option Value) : Prop where
  obj : h.get? x = some (PySem.W.instObj C dx)
  ns : h.Ns1 dx mA
  ne : dx ≠ x

section
variable {prog : Program} {w : World} {A : Around} {E : Value → Shared → Prop} {s : Shared} {K : PySem.W.Frag} {x dx C f : Addr} {mA : Str → Option Value} {name : Str} {v : Value}

end

section
variable {P : Program} {w : World} {H H' : Hp} {h h' : Heap} {a C dx : Addr} {fs fs' : List (Str × V)}
end

structure Cls (K : PySem.W.Frag) (C : Addr) : Prop where
  pg : PySem.W.plainGet K C Str.empty = true
  hd : PySem.W.hasDictIn K C = true
  po : PySem.W.plainOver K C = true
  sa : PySem.W.findIn K (.ref C) "__setattr__" = some (some (.builtin "object.__setattr__"))
theorem Cls.get {K : PySem.W.Frag} {C : Addr} (c : Cls K C) (f : Str) : PySem.W.plainGet K C f = true := c.pg
structure Con (K : PySem.W.Frag) (C : Addr) (f : Str) (v : V) (u : Value) : Prop where
  at_ : PySem.W.findIn K (.ref C) f = some (some u)
  rel : RelV v u
  get : PySem.W.specialIn K u "__get__" = some none
  cp : PySem.W.copiedNames.contains f = false
structure Meth (K : PySem.W.Frag) (C : Addr) (m : Str) (f : Addr) : Prop where
  at_ : PySem.W.findIn K (.ref C) m = some (some (.ref f))
  fn : PySem.W.isFn K (.ref f) = true
  kp : PySem.W.keepIn K (.ref f) = true

section
variable {X : Cx} {pins : List (Addr × Obj)} {σ : St} {H : Hp} {s : Shared} {a C dx : Addr} {fs : List (Str × V)} {f : Str} {v : V} {A : Around} {E : Value → Shared → Prop}

end

section
variable {X : Cx} {o e value : Expr} {f : Str} {pos pos' tpos : Pos} {ta tv : TE}
end

section
variable {X : Cx} {pins : List (Addr × Obj)} {σ : St} {H : Hp} {s : Shared} {A : Around} {E : Value → Shared → Prop} {Q : Value → Shared → Prop} {c : Value} {b : Bool}
inductive TyOf (K : PySem.W.Frag) (H : Hp) : V → Value → Prop where
  | non : TyOf K H .non (.type "NoneType")
  | bl (x : Bool) : TyOf K H (.bl x) (.type "bool")
  | int (i : Int) : TyOf K H (.int i) (.type "int")
  | str (x : Str) : TyOf K H (.str x) (.type "str")
  | flt (x : UInt64) : TyOf K H (.flt x) (.type "float")
  | lst {a : Addr} {xs : List V} (e : H a = some (.lst xs)) : TyOf K H (.ref a) (.type "list")
  | frz {a : Addr} {o : Obj} {xs : List V} (e : H a = some (.frz o (.lst xs))) : TyOf K H (.ref a) (.type "list")
  | tup {a : Addr} {xs : List V} (e : H a = some (.tup xs)) : TyOf K H (.ref a) (.type "tuple")
  | dK {a : Addr} {kvs : List (Key × V)} (e : H a = some (.dK kvs)) : TyOf K H (.ref a) (.type "dict")
  | dT {a : Addr} {kvs : List (List Key × V)} (e : H a = some (.dT kvs)) : TyOf K H (.ref a) (.type "dict")
  | ins {a C dx : Addr} {fs : List (Str × V)} (e : H a = some (.ins C dx fs)) (cl : Cls K C) (ha : PySem.W.findIn K (.ref C) "__class__" = some (some (.builtin "object.__class__")))
      (hn : PySem.W.specialIn K (.builtin "object.__class__") "__get__" = some (some (.builtin "getset_descriptor.__get__"))) (htk : PySem.W.takesIn K (.builtin "object.__class__") = some true)
      (hm : PySem.W.mroIn K C (.type "object") = some true) : TyOf K H (.ref a) (.ref C)
end
end L2

namespace L2
open PySem PySem.Spec PyProof.Rows

structure Room (k : Nat) (A : Around) : Prop where
  hd : A.handled = none
  dp : A.depth + 3 * k + 5 < recursionLimit
  un : A.units + 16 * k + 200 < cLine
theorem Room.mono {j k : Nat} {A : Around} (r : Room k A) (h : j ≤ k) : Room j A := ⟨r.hd, by have := r.dp; omega, by have := r.un; omega⟩
theorem Room.deeper {k : Nat} {A : Around} (r : Room (k + 1) A) (env : Env) : Room k (A.deeper env) :=
  ⟨r.hd, by have := r.dp; show A.depth + 1 + 3 * k + 5 < _; omega, by have := r.un; show A.units + 3 + 16 * k + 200 < _; omega⟩
theorem Room.in1 {k : Nat} {A : Around} (r : Room (k + 1) A) : Room k A.in1 :=
  ⟨r.hd, by have := r.dp; show A.depth + 3 * k + 5 < _; omega, by have := r.un; show A.units + 1 + 16 * k + 200 < _; omega⟩
theorem Room.depth {k : Nat} {A : Around} (r : Room k A) : A.depth < recursionLimit := by have := r.dp; omega
theorem Room.units {k : Nat} {A : Around} (r : Room k A) : A.units + 64 < cLine := by have := r.un; omega
noncomputable def tNil : TA := fun _ H Q => Q [] H
noncomputable def tCons (ta : TE) (tr : TA) : TA := fun σ H Q => ta σ H fun x H1 => tr σ H1 fun xs H2 => Q (x :: xs) H2
section
variable {X : Cx} {e : Expr} {es : List Expr} {te : TE} {t : TA} {pos : Pos}
theorem pa_nil : PA X [] tNil := fun _ _ _ _ H Q I h => Calls.spliced_nil ⟨[], H, I, .nil, h⟩
theorem pa_cons (ha : PE X e te) (hr : PA X es t) (hs : starEach (e :: es) X.env = (false, eval e X.env) :: starEach es X.env := by rfl) : PA X (e :: es) (tCons te t) := by
  intro pos pins s σ H Q I h
  rw [hs]
  show wpAny _ _ (spliced ((false, eval e X.env) :: backTo pos (starEach es X.env))) _ _ s
  refine Calls.spliced_cons (thn (ha pins s σ H _ I h) fun u s1 hpat => ?_)
  obtain ⟨x, H1, I1, r1, q1⟩ := hpat
  exact thn (hr pos pins s1 σ H1 _ I1 q1) fun us s2 ⟨xs, H2, I2, r2, q2⟩ => ⟨x :: xs, H2, I2, .cons r1 r2, q2⟩

noncomputable def tTup (t : TA) : TE := fun σ H Q => t σ H fun xs H1 => xs.length ≤ sizeLine ∧ ∀ p, H1 p = none → Q (.ref p) (upd H1 p (.tup xs))
noncomputable def tLst (t : TA) : TE := fun σ H Q => t σ H fun xs H1 => xs.length ≤ sizeLine ∧ ∀ p, H1 p = none → Q (.ref p) (upd H1 p (.lst xs))
theorem pe_tup {x1} (h : PA X es t) : PE X (.Tuple es x1 pos) (tTup t) := by
  intro pins s σ H Q I hq
  refine wpAny_Tuple_spliced (thn (h pos pins s σ H _ I hq) fun us s1 ⟨xs, H1, I1, r, z, q⟩ => ⟨by rw [← r.length]; exact z, ?_⟩)
  have hf : H1 s1.heap.objs.size = none := I1.hok.fresh (Nat.le_refl _)
  refine ⟨.ref s1.heap.objs.size, upd H1 s1.heap.objs.size (.tup xs), I1.laid (t' := s1.toks) (fun b u e => Heap.get?_push_of_some _ e) (Nat.le_refl _) ?_, rfl, q _ hf⟩
  exact ⟨z, us, r, ⟨_, Heap.get?_push_size _ rfl, rfl, _, rfl⟩⟩
theorem pe_lst (h : PA X es t) : PE X (.List es pos) (tLst t) := by
  intro pins s σ H Q I hq
  refine wpAny_List_spliced (thn (h pos pins s σ H _ I hq) fun us s1 ⟨xs, H1, I1, r, z, q⟩ => ⟨by rw [← r.length]; exact z, ?_⟩)
  have hf : H1 s1.heap.objs.size = none := I1.hok.fresh (Nat.le_refl _)
  refine ⟨.ref s1.heap.objs.size, upd H1 s1.heap.objs.size (.lst xs), I1.laid (t' := s1.toks) (fun b u e => Heap.get?_push_of_some _ e) (Nat.le_refl _) ?_, rfl, q _ hf⟩
  exact ⟨z, us, 0, r, Heap.get?_push_size _ rfl⟩
end

noncomputable abbrev Sp := List V → Hp → VK → XK → Prop
noncomputable abbrev CXT := List Env → Hp → Shared → XK → Value → Shared → Prop

structure Env0 (P : Program) (w : World) (K : PySem.W.Frag) (mg : Str → Option Value) (base : Heap) (A : Around) (outer : List Env) (s : Shared) (H : Hp) : Prop where
  frames : A.frames = some outer
  mod : Mod K mg base
  bs : ∀ b o, base.get? b = some o → s.heap.get? b = some o ∧ H b = none
  bsz : base.objs.size ≤ s.heap.objs.size
  funs : s.heap.FunFrames base outer
  frf : ∀ b ∈ frs outer, H b = none
  hok : HOk P w H s.heap
  bare : AllBare s.gens
noncomputable def CE (outer : List Env) (P : Program) (w : World) (H : Hp) (s : Shared) (Q : VK) (u : Value) (s' : Shared) : Prop :=
  ∃ v H', s'.os = s.os ∧ AllBare s'.gens ∧ Un (frs outer) [] H H' s.heap s'.heap ∧ HOk P w H' s'.heap ∧ RelV v u ∧ Q v H'
noncomputable def CR (CX : CXT) (outer : List Env) (P : Program) (w : World) (H : Hp) (s : Shared) (Q : VK) (E : XK) (r : Result) (s' : Shared) : Prop :=
  match r with
  | .ok (.ret u) => CE outer P w H s Q u s'
  | .ok _ => False
  | .error e => CX outer H s E e s'
structure FnOk (P : Program) (w : World) (K : PySem.W.Frag) (mg : Str → Option Value) (base : Heap) (CX : CXT) (k : Nat) (f : Addr) (fd : FuncData) (ps : List Str) (sp : Sp) : Prop where
  len : ∀ vs H Q E, sp vs H Q E → vs.length = ps.length
  run : ∀ (A : Around) (outer : List Env) (s : Shared) (H : Hp) (args : Args) (us : List Value) (vs : List V) (Q : VK) (E : XK), Room k A → Env0 P w K mg base A outer s H → BindsTo s fd args (ps.zip us) → Vals vs us → sp vs H Q E →
    codeAny (model P w) A (.call (.ref f) args) (CR CX outer P w H s Q E) s
theorem FnOk.mono {P : Program} {w : World} {K : PySem.W.Frag} {mg : Str → Option Value} {base : Heap} {CX : CXT} {j k : Nat} {f : Addr} {fd : FuncData} {ps : List Str} {sp : Sp} (F : FnOk P w K mg base CX j f fd ps sp) (h : j ≤ k) :
    FnOk P w K mg base CX k f fd ps sp := ⟨F.len, fun A outer s H args us vs Q E hr => F.run A outer s H args us vs Q E (hr.mono h)⟩
theorem FnOk.imp {P : Program} {w : World} {K : PySem.W.Frag} {mg : Str → Option Value} {base : Heap} {CX : CXT} {k : Nat} {f : Addr} {fd : FuncData} {ps : List Str} {sp sp' : Sp} (F : FnOk P w K mg base CX k f fd ps sp)
    (h : ∀ vs H Q E, sp' vs H Q E → sp vs H Q E) : FnOk P w K mg base CX k f fd ps sp' :=
  ⟨fun vs H Q E q => F.len vs H Q E (h _ _ _ _ q), fun A outer s H args us vs Q E hr he hb hv hs => F.run A outer s H args us vs Q E hr he hb hv (h _ _ _ _ hs)⟩

theorem Env0.in1 {P : Program} {w : World} {K : PySem.W.Frag} {mg : Str → Option Value} {base : Heap} {A : Around} {outer : List Env} {s : Shared} {H : Hp} (e : Env0 P w K mg base A outer s H) :
    Env0 P w K mg base A.in1 outer s H := ⟨e.frames, e.mod, e.bs, e.bsz, e.funs, e.frf, e.hok, e.bare⟩

section
variable {X : Cx} {pins : List (Addr × Obj)} {σ : St} {H : Hp} {s s' : Shared}
theorem Inv.env0 (I : Inv X pins σ H s) : Env0 X.prog X.w X.K X.mg X.base X.A X.stack s H :=
  ⟨I.ok.frames, I.ok.mod, I.bs, Nat.le_trans I.ok.bsz I.sz, I.stack, I.stkFree, I.hok, I.bare⟩
theorem Inv.after {Q : VK} {u : Value} (I : Inv X pins σ H s) (h : CE X.stack X.prog X.w H s Q u s') : EP X pins σ Q u s' := by
  obtain ⟨v, H', os, bare, un, hok, r, q⟩ := h
  obtain ⟨hh, g, d, t, os'⟩ := s'
  obtain rfl : os' = s.os := os
  exact ⟨v, H', I.call (h' := hh) (g' := g) (d' := d) (t' := t) (ch := []) un hok bare (fun b z => absurd z (by simp)), r, q⟩
end

noncomputable def tCall (sp : Sp) (dvs : List V) (E : XK) (t : TA) : TE := fun σ H Q => t σ H fun vs H1 => sp (vs ++ dvs) H1 Q E
noncomputable def Binds (K : PySem.W.Frag) (fd : FuncData) (ps : List Str) (ds : List Value) : Prop :=
  ∀ (s : Shared) (us : List Value), K.In s.heap → (us ++ ds).length = ps.length → BindsTo s fd ⟨us, []⟩ (ps.zip (us ++ ds))
theorem Binds.all {K : PySem.W.Frag} {fd : FuncData} {ps : List Str} (h : ∀ us : List Value, us.length = ps.length → bindArgs fd ⟨us, []⟩ = pure (ps.zip us)) : Binds K fd ps [] := fun s us _ hl => by
  rw [List.append_nil] at hl ⊢
  exact .of_eq (h us hl)

noncomputable def Passes (CX : CXT) (X : Cx) (E : XK) : Prop := ∀ (pins : List (Addr × Obj)) (σ : St) (H : Hp) (s : Shared) (e : Value) (s' : Shared), Inv X pins σ H s → CX X.stack H s E e s' → X.xe e s'

section
variable {X : Cx} {CX : CXT} {k : Nat} {f C : Addr} {fd : FuncData} {ps : List Str} {sp : Sp} {dvs : List V} {ds : List Value} {E : XK} {x m : Str} {p pos apos : Pos} {e o : Expr} {es : List Expr} {ta : TE} {t : TA}

theorem run_fn {pins : List (Addr × Obj)} {σ : St} {H : Hp} {s : Shared} {Q : VK} {us : List Value} {vs : List V} (F : FnOk X.prog X.w X.K X.mg X.base CX k f fd ps sp) (hr : Room k X.A) (hb : Binds X.K fd ps ds) (hd : Vals dvs ds) (hx : Passes CX X E)
    (I : Inv X pins σ H s) (r : Vals vs us) (h : sp (vs ++ dvs) H Q E) : wpAny (model X.prog X.w) X.A (call (.ref f) us) (EP X pins σ Q) X.xe s := by
  have r2 : Vals (vs ++ dvs) (us ++ ds) := r.append hd
  have hl : (us ++ ds).length = ps.length := by rw [← r2.length]; exact F.len _ _ _ _ h
  refine wpAny_call (codeAny_mono (F.run X.A X.stack s H ⟨us, []⟩ (us ++ ds) (vs ++ dvs) Q E hr I.env0 (hb s us I.kIn hl) r2 h) fun r s' hq => ?_)
  cases r with
  | error e => exact hx pins σ H s e s' I hq
  | ok fl =>
    cases fl with
    | ret u => exact I.after hq
    | next => exact False.elim hq
    | brk => exact False.elim hq
    | cont => exact False.elim hq

theorem pe_call (F : FnOk X.prog X.w X.K X.mg X.base CX k f fd ps sp) (hr : Room k X.A) (hg : Gl X x) (hm : X.mg x = some (.ref f)) (hk : PySem.W.keepIn X.K (.ref f) = true) (hb : Binds X.K fd ps ds) (hd : Vals dvs ds) (hx : Passes CX X E)
    (ha : PA X (e :: es) t) (hdb : (x == ("__debug__" : Str)) = false := by decide) (he : starEach (e :: es) X.env = (false, eval e X.env) :: starEach es X.env := by rfl) (hpl : (backTo pos (starEach es X.env)).any (·.1) = false := by rfl) :
    PE X (.Call (.Name x p) (e :: es) [] pos) (tCall sp dvs E t) := by
  intro pins s σ H Q I h
  refine wpAny_Call_Name_kw (ld_glob I hg hm ?_ hdb)
  refine PySem.W.callWith_K (h₀ := X.base) I.ok.mod.kin hk (thn (ha pos pins s σ H _ I h) fun us s1 ⟨vs, H1, I1, r, q⟩ => ⟨I1.kIn, ?_⟩) he hpl
  exact run_fn F hr hb hd hx I1 r q
structure Mk (K : PySem.W.Frag) (C f : Addr) : Prop where
  makes : PySem.W.makesIn K C = true
  init : PySem.W.findIn K (.ref C) "__init__" = some (some (.ref f))
  fn : PySem.W.isFn K (.ref f) = true
  kp : PySem.W.keepIn K (.ref C) = true

end

noncomputable def PK (X : Cx) (kws : List Keyword) (t : TA) : Prop :=
  ∀ (pos : Pos) (pins : List (Addr × Obj)) (s : Shared) (σ : St) (H : Hp) (Q : List V → Hp → Prop), Inv X pins σ H s → t σ H Q → wpAny (model X.prog X.w) X.A (evalAll ((backToKw pos (keywordEach kws X.env)).map (·.2))) (AP X pins σ Q) X.xe s
section
variable {X : Cx} {CX : CXT} {k : Nat} {f C : Addr} {fd : FuncData} {ps ks : List Str} {sp : Sp} {E : XK} {x m : Str} {p pos apos kpos : Pos} {e o : Expr} {es : List Expr} {kws : List Keyword} {te ta : TE} {t tk : TA} {nm : Option Str}
theorem pk_nil : PK X [] tNil := fun _ _ _ _ H Q I h => wpAny_evalAll_nil ⟨[], H, I, .nil, h⟩
theorem pk_cons (ha : PE X e te) (hr : PK X kws t) : PK X (⟨nm, e, kpos⟩ :: kws) (tCons te t) := by
  intro pos pins s σ H Q I h
  show wpAny _ _ (evalAll ((do let v ← eval e X.env; standAt pos; pure v) :: (backToKw pos (keywordEach kws X.env)).map (·.2))) _ _ s
  refine wpAny_evalAll_cons (wpAny_bind (thn (ha pins s σ H _ I h) fun u s1 ⟨x, H1, I1, r1, q1⟩ => wpAny_bind (wpAny_standAt (wpAny_pure ?_))))
  exact thn (hr pos pins s1 σ H1 _ I1 q1) fun us s2 ⟨xs, H2, I2, r2, q2⟩ => ⟨x :: xs, H2, I2, .cons r1 r2, q2⟩

structure KBinds (K : PySem.W.Frag) (fd : FuncData) (ps ks : List Str) (g : List Value → List Value → List Value) (gV : List V → List V → List V) : Prop where
  to : ∀ (s : Shared) (us ws : List Value), K.In s.heap → (g us ws).length = ps.length → BindsTo s fd ⟨us, ks.zip ws⟩ (ps.zip (g us ws))
  rel : ∀ {vs : List V} {us : List Value} {zs : List V} {ws : List Value}, Vals vs us → Vals zs ws → Vals (gV vs zs) (g us ws)
variable {g : List Value → List Value → List Value} {gV : List V → List V → List V}
end

structure FnScope (N P : List Str) (sc : Scope) : Prop where
  kind : sc.kind = .function
  co : sc.isCoroutine = false
  gen : sc.isGenerator = false
  nd : N.Nodup
  pre : N.take P.length = P
  par : ∀ x ∈ P, sc.names.lookup x = some .local ∨ sc.names.lookup x = some .cell
  nofree : ∀ y ∈ sc.names, y.2 ≠ .free

theorem bindL_out {kindOf : Str → Option NameKind} {x : Str} : ∀ {binds : List (Str × Value)} {m : Str → Option Value}, (∀ v, (x, v) ∉ binds) → bindL kindOf binds m x = m x
  | [], _, _ => rfl
  | (n, v) :: r, m, h => by
    unfold bindL
    rw [bindL_out fun w hw => h w (List.mem_cons_of_mem _ hw)]
    split
    · have : x ≠ n := by rintro rfl; exact h v List.mem_cons_self
      simp [this]
    · rfl
theorem bindC_out {kindOf : Str → Option NameKind} {x : Str} : ∀ {binds : List (Str × Value)} {m : Str → Option Value}, (∀ v, (x, v) ∉ binds) → bindC kindOf binds m x = m x
  | [], _, _ => rfl
  | (n, v) :: r, m, h => by
    unfold bindC
    rw [bindC_out fun w hw => h w (List.mem_cons_of_mem _ hw)]
    split
    · rfl
    · have : x ≠ n := by rintro rfl; exact h v List.mem_cons_self
      simp [this]
theorem bindL_get {kindOf : Str → Option NameKind} {x : Str} {v : Value} : ∀ {P : List Str} {vs : List Value} {i : Nat} {m : Str → Option Value}, P.Nodup → P[i]? = some x → vs[i]? = some v → kindOf x = some .local →
    bindL kindOf (P.zip vs) m x = some v
  | [], _, _, _, _, h, _, _ => by simp at h
  | _ :: _, [], _, _, _, _, h, _ => by simp at h
  | p :: P, w :: vs, 0, m, nd, h1, h2, hk => by
    simp at h1 h2; subst h1; subst h2
    show bindL kindOf ((p, w) :: P.zip vs) m p = _
    unfold bindL
    rw [bindL_out fun v hv => (List.nodup_cons.mp nd).1 (List.of_mem_zip hv).1, if_pos hk]
    simp
  | p :: P, w :: vs, i + 1, m, nd, h1, h2, hk => by
    show bindL kindOf ((p, w) :: P.zip vs) m x = _
    unfold bindL
    exact bindL_get (i := i) (List.nodup_cons.mp nd).2 (by simpa using h1) (by simpa using h2) hk
theorem bindC_get {kindOf : Str → Option NameKind} {x : Str} {v : Value} : ∀ {P : List Str} {vs : List Value} {i : Nat} {m : Str → Option Value}, P.Nodup → P[i]? = some x → vs[i]? = some v → kindOf x ≠ some .local →
    bindC kindOf (P.zip vs) m x = some v
  | [], _, _, _, _, h, _, _ => by simp at h
  | _ :: _, [], _, _, _, _, h, _ => by simp at h
  | p :: P, w :: vs, 0, m, nd, h1, h2, hk => by
    simp at h1 h2; subst h1; subst h2
    show bindC kindOf ((p, w) :: P.zip vs) m p = _
    unfold bindC
    rw [bindC_out fun v hv => (List.nodup_cons.mp nd).1 (List.of_mem_zip hv).1, if_neg hk]
    simp
  | p :: P, w :: vs, i + 1, m, nd, h1, h2, hk => by
    show bindC kindOf ((p, w) :: P.zip vs) m x = _
    unfold bindC
    exact bindC_get (i := i) (List.nodup_cons.mp nd).2 (by simpa using h1) (by simpa using h2) hk

noncomputable def start (N : List Str) (vs : List V) : St := vs.map some ++ List.replicate (N.length - vs.length) none

noncomputable def cxOf (CX : CXT) (P : Program) (w : World) (K : PySem.W.Frag) (mg : Str → Option Value) (base : Heap) (N : List Str) (qual : Str) (scope : Scope) (f : Addr) (cd : Value) (A : Around) (outer : List Env) (s : Shared) (H : Hp) (E : XK) : Cx where
  prog := P
  w := w
  K := K
  mg := mg
  base := base
  A := A.deeper (envOfC qual scope s.heap.objs.size f cd)
  N := N
  s₀ := s
  H₀ := H
  env := envOfC qual scope s.heap.objs.size f cd
  outer := outer
  stack := envOfC qual scope s.heap.objs.size f cd :: outer
  ex := []
  calm := true
  fn := fun _ => true
  pn := []
  xe := fun e s' => wpAny (model P w) (A.deeper (envOfC qual scope s.heap.objs.size f cd)) (leaving (envOfC qual scope s.heap.objs.size f cd) e) (fun _ s'' => CX outer H s E e s'') (fun e' s'' => CX outer H s E e' s'') s'

theorem cell_has {sc : Scope} {n : Nat} {x : Str} (h : sc.names.lookup x = some .cell) : ∃ c, (cellsFrom n sc.names []).lookup x = some c := by
  have q := PySem.W.cellsFrom_some sc.names n [] (.inl h)
  exact Option.isSome_iff_exists.mp q

theorem inv_start {CX : CXT} {P : Program} {w : World} {K : PySem.W.Frag} {mg : Str → Option Value} {base : Heap} {N ps : List Str} {qual : Str} {scope : Scope} {f : Addr} {cd : Value} {A : Around} {outer : List Env} {s s1 : Shared} {H : Hp} {E : XK} {us : List Value} {vs : List V}
    (S : FnScope N ps scope) (hd : A.handled = none) (e0 : Env0 P w K mg base A outer s H) (hl : vs.length = ps.length) (r : Vals vs us)
    (x : InCallC s s.heap.objs.size (bindL (envOfC qual scope s.heap.objs.size f cd).kindOf (ps.zip us) fun _ => none) (cellsFrom (s.heap.objs.size + 1) scope.names []) (bindC (envOfC qual scope s.heap.objs.size f cd).kindOf (ps.zip us) fun _ => none) s1) :
    Inv (cxOf CX P w K mg base N qual scope f cd A outer s H E) [] (start N vs) H s1 := by
  have hpl : ps.length ≤ N.length := by have := congrArg List.length S.pre; rw [List.length_take] at this; omega
  obtain ⟨h1, tk, rfl, hk⟩ := x.done
  have noA : ∀ b : Addr, b ∉ (cxOf CX P w K mg base N qual scope f cd A outer s H E).ex := fun b z => absurd (show b ∈ ([] : List Addr) from z) (by simp)
  refine ⟨⟨e0.mod, S.kind, rfl, rfl, Nat.le_refl _, fun y z c h1 h2 => ?_, fun y hy => ?_, fun y c _ h => ?_, fun _ => hd, Around.frames_deeper e0.frames, .inr ⟨rfl, rfl⟩, fun b z => absurd z (noA b), e0.bs, e0.bsz, fun b _ _ => noA b, fun b z => absurd z (noA b), e0.funs, e0.frf⟩,
    rfl, e0.bare, Un.kept hk, ⟨_, x.toInCall.ns, fun i y v h1 h2 h3 => ?_⟩, fun y c h => ⟨_, x.cell y c h⟩, e0.hok.fresh (Nat.le_refl _), fun y c h => ?_, fun p hp => absurd (show p ∈ ([] : List (Addr × Obj)) from hp) (by simp), e0.hok.kept hk, ?_⟩
  · exact name_of_addr x.apart (PySem.mem_of_lookup h1) (PySem.mem_of_lookup h2)
  · have hy : scope.names.lookup y = some .cell ∨ scope.names.lookup y = some .free := hy
    rcases hy with hy | hy
    · exact cell_has hy
    · exact absurd rfl (S.nofree _ (PySem.mem_of_lookup hy))
  · exact Nat.le_of_lt (x.above y c (PySem.mem_of_lookup h))
  · have hi : i < vs.length := by
      unfold start at h2
      by_cases hi : i < vs.length
      · exact hi
      · rw [List.getElem?_append_right (by simpa using hi)] at h2
        rw [List.getElem?_replicate] at h2
        split at h2 <;> cases h2
    have ha : vs[i]? = some v := by
      unfold start at h2
      rw [List.getElem?_append_left (by simpa using hi), List.getElem?_map] at h2
      cases e : vs[i]? with
      | none => rw [e] at h2; cases h2
      | some a => rw [e] at h2; cases h2; rfl
    obtain ⟨u, hu, rv⟩ := r.get ha
    have hp : ps[i]? = some y := by
      rw [← S.pre, List.getElem?_take_of_lt (by omega)]; exact h1
    have ndP : ps.Nodup := by rw [← S.pre]; exact S.nd.sublist (List.take_sublist _ _)
    refine ⟨u, rv, ?_⟩
    rcases S.par y (List.mem_of_getElem? hp) with k | k
    · exact .inl ⟨k, bindL_get ndP hp hu k⟩
    · obtain ⟨c, e⟩ := cell_has (n := s.heap.objs.size + 1) k
      refine .inr ⟨.inl k, c, e, ?_⟩
      have q := x.cell y c e
      rw [bindC_get ndP hp hu (by show scope.names.lookup y ≠ _; rw [k]; decide)] at q
      exact q
  · exact e0.hok.fresh (Nat.le_of_lt (x.above y c (PySem.mem_of_lookup h)))
  · unfold start
    show _ = N.length
    rw [List.length_append, List.length_map, List.length_replicate]
    omega

theorem fn_of {CX : CXT} {P : Program} {w : World} {K : PySem.W.Frag} {mg : Str → Option Value} {base : Heap} {k : Nat} {f : Addr} {name qual : Str} {params : Arguments} {body : List Stmt} {scope : Scope} {dV kV doc pm cdv ct oc : Value} {an od : Option Addr}
    {osl : Array (Option Value)} {N ps : List Str} {sp : Sp} (lk : K.lookup f = some ⟨oc, od, .func (PySem.W.fnOf name qual params body scope dV kV doc pm an cdv ct), osl⟩) (hcd : PySem.W.codeIn K cdv qual = true) (S : FnScope N ps scope)
    (len : ∀ vs H Q E, sp vs H Q E → vs.length = ps.length)
    (hbody : ∀ (A : Around) (outer : List Env) (s : Shared) (H : Hp) (vs : List V) (Q : VK) (E : XK), Room k (A.deeper (envOfC qual scope s.heap.objs.size f cdv)) → sp vs H Q E →
      ∃ t, PSs (cxOf CX P w K mg base N qual scope f cdv A outer s H E) body t ∧ t { nx := fun _ H' => Q .non H', rt := Q } (start N vs) H) :
    FnOk P w K mg base CX (k + 1) f (PySem.W.fnOf name qual params body scope dV kV doc pm an cdv ct) ps sp := by
  refine ⟨len, fun A outer s H args us vs Q E hr e0 hb r hsp => ?_⟩
  have hl := len _ _ _ _ hsp
  have KX : K.In s.heap := e0.mod.kin.keeps fun b o e => (e0.bs b o e).1
  have lim : s.heap.NoLimit := e0.mod.nolimit.keeps fun b o e => (e0.bs b o e).1
  have hkind : ∀ y ∈ ps.zip us, scope.names.lookup y.1 = some .local ∨ (scope.names.lookup y.1 = some .cell ∧ ((cellsFrom (s.heap.objs.size + 1) scope.names []).lookup y.1).isSome = true) := fun ⟨n, v⟩ hy => by
    rcases S.par n (List.of_mem_zip hy).1 with q | q
    · exact .inl q
    · exact .inr ⟨q, PySem.W.cellsFrom_some _ _ _ (.inl q)⟩
  refine codeAny_call_function hr.depth (KX _ _ lk) rfl S.co S.gen rfl (PySem.W.codeRec_of KX hcd) (hb _ _ _ _ ?_)
  refine wpAny_newFunctionEnv_cells S.kind hkind fun env he s1 x => ?_
  subst he
  refine ⟨lim.keeps x.toInCall.keep, codeAny_func ?_⟩
  obtain ⟨t, ht, hq⟩ := hbody A outer s H vs Q E (hr.deeper _) hsp
  have I : Inv (cxOf CX P w K mg base N qual scope f cdv A outer s H E) [] (start N vs) H s1 := inv_start S hr.hd e0 hl r x
  refine wpAny_mono (ht [] s1 (start N vs) H _ I hq) (fun fl s' hs => ?_) fun e s' hs => hs
  have fin : ∀ {σ' : St} {H' : Hp} {v : V} {u : Value}, Inv (cxOf CX P w K mg base N qual scope f cdv A outer s H E) [] σ' H' s' → RelV v u → Q v H' → CE outer P w H s Q u s' :=
    fun {σ' H' v u} J rv q => ⟨v, H', J.os, J.bare, J.base, J.hok, rv, q⟩
  cases fl with
  | ret u =>
    obtain ⟨v, σ', H', J, rv, q⟩ := hs
    exact fin J rv q
  | next =>
    obtain ⟨σ', H', J, q⟩ := hs
    exact fin (v := V.non) (u := Value.none) J rfl q
  | brk =>
    obtain ⟨_, _, _, q⟩ := hs
    exact False.elim q
  | cont =>
    obtain ⟨_, _, _, q⟩ := hs
    exact False.elim q
end L2

namespace L2
open PySem PySem.Spec PyProof.Rows
section
variable {X : Cx} {x : Str} {p pos : Pos} {e : Expr} {es : List Expr} {t : TA} {id T : String} {r : List V → Hp → VK → Prop}

noncomputable def tCB (r : List V → Hp → VK → Prop) (t : TA) : TE := fun σ H Q => t σ H fun vs H1 => r vs H1 Q
theorem pe_callB (hc : CallR X (.builtin id) r) (hg : Gl X x) (hm : X.mg x = none) (hv : bootBuiltins x = some (.builtin id)) (ha : PA X (e :: es) t) (hn : x ≠ "__name__" := by decide) (hdb : (x == ("__debug__" : Str)) = false := by decide)
    (he : starEach (e :: es) X.env = (false, eval e X.env) :: starEach es X.env := by rfl) (hpl : (backTo pos (starEach es X.env)).any (·.1) = false := by rfl) : PE X (.Call (.Name x p) (e :: es) [] pos) (tCB r t) := by
  intro pins s σ H Q I h
  refine wpAny_Call_Name_kw (ld_blt I hg hm hv ?_ hn hdb)
  exact PyProof.Rows.callWith_builtin1 (thn (ha pos pins s σ H _ I h) fun us s1 ⟨vs, H1, I1, r1, q1⟩ => hc pins s1 σ H1 vs us Q I1 r1 q1) he hpl
theorem pe_callTy (hc : CallR X (.type T) r) (hg : Gl X x) (hm : X.mg x = none) (hv : bootBuiltins x = some (.type T)) (ha : PA X (e :: es) t) (hn : x ≠ "__name__" := by decide) (hdb : (x == ("__debug__" : Str)) = false := by decide)
    (he : starEach (e :: es) X.env = (false, eval e X.env) :: starEach es X.env := by rfl) (hpl : (backTo pos (starEach es X.env)).any (·.1) = false := by rfl) : PE X (.Call (.Name x p) (e :: es) [] pos) (tCB r t) := by
  intro pins s σ H Q I h
  refine wpAny_Call_Name_kw (ld_blt I hg hm hv ?_ hn hdb)
  exact PyProof.Rows.callWith_type1 (thn (ha pos pins s σ H _ I h) fun us s1 ⟨vs, H1, I1, r1, q1⟩ => hc pins s1 σ H1 vs us Q I1 r1 q1) he hpl
end
end L2

namespace HT
open PySem PyProof.Rows

theorem rcLt_int (A : Around) (s : Shared) (a : Int) (t : Tok) (c : Int) (u : Tok) (prog : Program) (w : World) (E : Value → Shared → Prop) (Q : Value → Shared → Prop) (h : Q (.bool (decide (a < c))) s) :
    wpAny (model prog w) A (richCompare .Lt (.int a t) (.int c u)) Q E s :=
  (PyProof.Rows.lt_int h : wpAny (model prog w) A (compareOp .Lt (.int a t) (.int c u)) Q E s)

section
open PySem.SeqAt
open PySem.AutoSeq1 (wpAny_loadPart')
open PySem.MeetsSeq PySem.MeetsSeq2 PySem.MeetsSeq3

end

section
variable {prog : Program} {w : World} {A : Around} {E : Value → Shared → Prop} {s : Shared}

noncomputable def sIx (n d : Nat) : Option Int → Nat
  | none => d
  | some v => if v < 0 then (v + (n : Int)).toNat else min v.toNat n
theorem sIx_none (n d : Nat) : sIx n d none = d := rfl
theorem sIx_nat (n d k : Nat) : sIx n d (some (k : Int)) = min k n := by
  show (if (k : Int) < 0 then ((k : Int) + (n : Int)).toNat else min (k : Int).toNat n) = min k n
  rw [if_neg (by omega), Int.toNat_natCast]
end
end HT

namespace L2
open PySem PySem.Spec PyProof.Rows

noncomputable abbrev TO := St → Hp → (Option Int → Hp → Prop) → Prop
noncomputable def PO (X : Cx) (e : Option Expr) (t : TO) : Prop :=
  ∀ (pins : List (Addr × Obj)) (s : Shared) (σ : St) (H : Hp) (Q : Option Int → Hp → Prop), Inv X pins σ H s → t σ H Q →
    wpAny (model X.prog X.w) X.A (evalPart e X.env) (fun u s' => ∃ o H', Inv X pins σ H' s' ∧ IsPart u o ∧ Q o H') X.xe s
noncomputable def tNoPart : TO := fun _ H Q => Q none H
noncomputable def tPart (t : TE) : TO := fun σ H Q => t σ H fun x H1 => ∃ i, x = .int i ∧ Q (some i) H1

section
variable {X : Cx} {e : Expr} {te : TE} {lo hi : Option Expr} {tl th : TO} {pos p2 : Pos}

theorem po_none : PO X none tNoPart := by
  intro pins s σ H Q I h
  rw [evalPart_none]
  exact wpAny_pure ⟨none, H, I, .none, h⟩
theorem po_some (h : PE X e te) : PO X (some e) (tPart te) := by
  intro pins s σ H Q I hw
  rw [evalPart_some]
  refine thn (h pins s σ H _ I hw) fun u s1 hpat => ?_
  obtain ⟨x, H1, I1, r1, q1⟩ := hpat
  obtain ⟨i, rfl, q⟩ := q1
  obtain ⟨t, rfl⟩ := r1
  exact ⟨some i, H1, I1, .int i t, q⟩

noncomputable def SlR (X : Cx) (r : V → Option Int → Option Int → Hp → VK → Prop) : Prop :=
  ∀ (pins : List (Addr × Obj)) (s : Shared) (σ : St) (H : Hp) (x : V) (v vl vu : Value) (lo hi : Option Int) (sl : Addr) (Q : VK), Inv X pins σ H s → RelV x v → s.heap.IsSliceOf sl vl vu .none → IsPart vl lo → IsPart vu hi → r x lo hi H Q →
    ∃ T id, typeLookup (.type T) "__getitem__" = pure (some (.builtin id)) ∧ s.TypeIs v T ∧ wpAny (model X.prog X.w) X.A (getItem v (.ref sl)) (EP X pins σ Q) X.xe s
theorem SlR.or {r r' : V → Option Int → Option Int → Hp → VK → Prop} (h : SlR X r) (h' : SlR X r') : SlR X (fun x lo hi H Q => r x lo hi H Q ∨ r' x lo hi H Q) := by
  intro pins s σ H x v vl vu lo hi sl Q I rx hs pl pu q
  rcases q with q | q
  · exact h pins s σ H x v vl vu lo hi sl Q I rx hs pl pu q
  · exact h' pins s σ H x v vl vu lo hi sl Q I rx hs pl pu q
noncomputable def tSl (r : V → Option Int → Option Int → Hp → VK → Prop) (te : TE) (tl th : TO) : TE := fun σ H Q => te σ H fun x H1 => tl σ H1 fun l H2 => th σ H2 fun u H3 => r x l u H3 Q
theorem pe_slice {r : V → Option Int → Option Int → Hp → VK → Prop} (hr : SlR X r) (he : PE X e te) (hl : PO X lo tl) (hu : PO X hi th) : PE X (.Subscript e (.Slice lo hi none p2) pos) (tSl r te tl th) := by
  intro pins s σ H Q I h
  refine Subscript_ (thn (he pins s σ H _ I h) fun v s1 hpat => ?_)
  obtain ⟨x, H1, I1, r1, q1⟩ := hpat
  refine wpAny_Slice (thn (hl pins s1 σ H1 _ I1 q1) fun vl s2 ⟨l, H2, I2, pl, q2⟩ => thn (hu pins s2 σ H2 _ I2 q2) fun vu s3 hpat => ?_)
  obtain ⟨u, H3, I3, pu, q3⟩ := hpat
  rw [evalPart_none]
  refine wpAny_pure ?_
  have I4 : Inv X pins σ H3 { s3 with heap := s3.heap.push { cls := .type "slice", data := .fields #[vl, vu, .none] } } := I3.kept (t' := s3.toks) fun b ob q => Heap.get?_push_of_some _ q
  obtain ⟨T, id, hT, ht, hg⟩ := hr pins { s3 with heap := s3.heap.push { cls := .type "slice", data := .fields #[vl, vu, .none] } } σ H3 x v vl vu l u s3.heap.objs.size Q I4 r1 (Heap.IsSliceOf.new ..) pl pu q3
  show wpAny (model X.prog X.w) X.A (subscriptTail e (.Slice lo hi none p2) v (.ref s3.heap.objs.size)) (EP X pins σ Q) X.xe { s3 with heap := s3.heap.push { cls := .type "slice", data := .fields #[vl, vu, .none] } }
  exact tail_any (ops := [.ref s3.heap.objs.size, v]) ht hT hg (by with_unfolding_all rfl)

noncomputable def cutV (xs : List V) (lo hi : Option Int) : List V := (xs.drop (HT.sIx xs.length 0 lo)).take (HT.sIx xs.length xs.length hi - HT.sIx xs.length 0 lo)
theorem cutV_length (xs : List V) (lo hi : Option Int) : (cutV xs lo hi).length ≤ xs.length := by
  unfold cutV
  rw [List.length_take, List.length_drop]
  omega
end
end L2

namespace L2
open PySem PySem.Spec PyProof.Rows

noncomputable def ixN (n : Nat) (i : Int) : Option Nat := if 0 ≤ i then (if i < n then some i.toNat else none) else if -(n : Int) ≤ i then some (i + n).toNat else none
noncomputable def atI {α : Type} (xs : List α) (i : Int) : Option α := (ixN xs.length i).bind fun j => xs[j]?
theorem ixN_seq {n : Nat} {i : Int} {j : Nat} (h : ixN n i = some j) : seqIndex? i n = some j ∧ j < n ∧ -(n : Int) ≤ i ∧ i < n := by
  unfold ixN at h
  by_cases h0 : 0 ≤ i
  · rw [if_pos h0] at h
    by_cases h1 : i < n
    · rw [if_pos h1] at h
      have e : i.toNat = j := Option.some.inj h
      exact ⟨by rw [seqIndex_of h0 h1, e], by omega, by omega, h1⟩
    · rw [if_neg h1] at h; cases h
  · rw [if_neg h0] at h
    by_cases h1 : -(n : Int) ≤ i
    · rw [if_pos h1] at h
      have e : (i + n).toNat = j := Option.some.inj h
      exact ⟨by rw [seqIndex_neg (by omega) h1, e], by omega, h1, by omega⟩
    · rw [if_neg h1] at h; cases h
theorem atI_get {α : Type} {xs : List α} {i : Int} {v : α} (h : atI xs i = some v) : ∃ j, seqIndex? i xs.length = some j ∧ xs[j]? = some v ∧ j < xs.length ∧ -(xs.length : Int) ≤ i ∧ i < xs.length := by
  unfold atI at h
  cases e : ixN xs.length i with
  | none => rw [e] at h; cases h
  | some j =>
    rw [e] at h
    obtain ⟨h1, h2, h3, h4⟩ := ixN_seq e
    exact ⟨j, h1, h, h2, h3, h4⟩
theorem atI_last {α : Type} (xs : List α) (v : α) : atI (xs ++ [v]) (-1) = some v := by
  have hl : (xs ++ [v]).length = xs.length + 1 := by simp
  have e : ixN (xs ++ [v]).length (-1) = some xs.length := by
    unfold ixN
    rw [hl, if_neg (by decide), if_pos (by omega)]
    congr 1
    omega
  unfold atI
  rw [e]
  show (xs ++ [v])[xs.length]? = some v
  simp

noncomputable def PlainIx (b : Expr) : Prop := ∀ o i, subscripted b false o i = operate [o, i] (getItem o i)
noncomputable def IxR (X : Cx) (r : R2) : Prop :=
  ∀ (value slice : Expr) (pins : List (Addr × Obj)) (s : Shared) (σ : St) (H : Hp) (x y : V) (v u : Value) (Q : VK), Inv X pins σ H s → RelV x v → RelV y u → r x y H Q →
    subscripted slice false v u = operate [v, u] (getItem v u) → wpAny (model X.prog X.w) X.A (subscriptTail value slice v u) (EP X pins σ Q) X.xe s
noncomputable def MtR (X : Cx) (id : String) (r : V → List V → Hp → VK → Prop) : Prop :=
  ∀ (pins : List (Addr × Obj)) (s : Shared) (σ : St) (H : Hp) (x : V) (xs : List V) (v : Value) (us : List Value) (Q : VK), Inv X pins σ H s → RelV x v → Vals xs us → r x xs H Q →
    wpAny (model X.prog X.w) X.A (call (.builtin id) (v :: us)) (EP X pins σ Q) X.xe s
section
variable {X : Cx} {a b : Expr} {ta tb : TE} {pos : Pos}
theorem IxR.or {r r' : R2} (h : IxR X r) (h' : IxR X r') : IxR X (fun x y H Q => r x y H Q ∨ r' x y H Q) := by
  intro value slice pins s σ H x y v u Q I rx ry q hs
  rcases q with q | q
  · exact h value slice pins s σ H x y v u Q I rx ry q hs
  · exact h' value slice pins s σ H x y v u Q I rx ry q hs
theorem MtR.or {id : String} {r r' : V → List V → Hp → VK → Prop} (h : MtR X id r) (h' : MtR X id r') : MtR X id (fun x xs H Q => r x xs H Q ∨ r' x xs H Q) := by
  intro pins s σ H x xs v us Q I rx rs q
  rcases q with q | q
  · exact h pins s σ H x xs v us Q I rx rs q
  · exact h' pins s σ H x xs v us Q I rx rs q
theorem pe_ix {r : R2} (hr : IxR X r) (ha : PE X a ta) (hb : PE X b tb) (hs : PlainIx b) : PE X (.Subscript a b pos) (tOp r ta tb) := by
  intro pins s σ H Q I h
  exact Subscript_ (binT ha hb I h fun v u s2 x y H2 I2 rx ry q => hr a b pins s2 σ H2 x y v u Q I2 rx ry q (hs _ _))

noncomputable def rIxL (K : PySem.W.Frag) : R2 := fun x y H Q => ∃ p xs i v, x = .ref p ∧ y = .int i ∧ SqL K H p xs ∧ atI xs i = some v ∧ Q v H
theorem ix_list : IxR X (rIxL X.K) := by
  intro value slice pins s σ H x y v u Q I rx ry h hs
  obtain ⟨p, xs, i, z, rfl, rfl, hq, he, q⟩ := h
  cases rx
  obtain ⟨t, rfl⟩ := ry
  obtain ⟨its, r, pl, hz⟩ := I.list hq
  obtain ⟨j, h1, h2, h3, h4, h5⟩ := atI_get he
  obtain ⟨w, ew, rw'⟩ := r.get h2
  have hl := r.length
  have hn := line63
  have fin : EP X pins σ Q w s := ⟨z, H, I, rw', q⟩
  by_cases h0 : 0 ≤ i
  · have hj : i.toNat = j := by
      rw [seqIndex_of h0 h5] at h1
      exact Option.some.inj h1
    exact item_listR pl.isList h0 (by omega) (by rw [hj]; simpa using ew) fin hs
  · have hj : (i + (its.toArray.size : Int)).toNat = j := by
      rw [seqIndex_neg (by omega) h4] at h1
      rw [List.size_toArray, ← hl]
      exact Option.some.inj h1
    exact subscriptTail_builtinR (x := w) pl.isList.typeIs slot_list_getitem.lookup
      (wpAny_getItem_list_neg (Q := fun r s' => r = w ∧ EP X pins σ Q r s') pl.isList (by omega) (by rw [List.size_toArray] <;> omega) (by omega) (by rw [hj]; simpa using ew) ⟨rfl, fin⟩) hs
theorem mapSeq_set (its : List Value) (n j : Nat) (u : Value) : Obj.mapSeq (·.setIfInBounds j u) { cls := .type "list", data := .seq its.toArray n } = { cls := .type "list", data := .seq (its.set j u).toArray n } := by
  simp [Obj.mapSeq]
theorem Inv.lst {pins : List (Addr × Obj)} {σ : St} {H : Hp} {s : Shared} {p : Addr} {xs : List V} (I : Inv X pins σ H s) (h : H p = some (.lst xs)) :
    ∃ (its : List Value) (n : Nat), Vals xs its ∧ s.heap.get? p = some { cls := .type "list", data := .seq its.toArray n } ∧ xs.length ≤ sizeLine := by
  obtain ⟨z, its, n, r, e⟩ := I.hok p _ h
  exact ⟨its, n, r, e, z⟩
theorem Inv.lstUpd {pins : List (Addr × Obj)} {σ : St} {H : Hp} {s : Shared} {p : Addr} {xs ys : List V} {its its' : List Value} {n n' : Nat} {f : Obj → Obj} (I : Inv X pins σ H s) (h : H p = some (.lst xs))
    (ho : s.heap.get? p = some { cls := .type "list", data := .seq its.toArray n }) (hf : f { cls := .type "list", data := .seq its.toArray n } = { cls := .type "list", data := .seq its'.toArray n' }) (r : Vals ys its') (hz : ys.length ≤ sizeLine) (t : Nat) :
    Inv X pins σ (upd H p (.lst ys)) { s with heap := s.heap.update p f, toks := t } := by
  have e : (s.heap.update p f).get? p = some { cls := .type "list", data := .seq its'.toArray n' } := by
    rw [Heap.get?_update_self f ho (by rw [hf] <;> rfl), hf]
  refine I.write (x := p) (e := p) (by rw [h]; trivial) (.inl rfl) (fun b u hb q => (Heap.get?_update_other _ _ (Ne.symm hb)).trans q) ⟨_, e⟩ ?_
  exact ⟨hz, its', n', r, e⟩
noncomputable def rSetL : V → V → V → Hp → (Hp → Prop) → Prop := fun o i v H Q => ∃ p xs k j, o = .ref p ∧ i = .int k ∧ H p = some (.lst xs) ∧ ixN xs.length k = some j ∧ Q (upd H p (.lst (xs.set j v)))
theorem set_list : PSet X rSetL := by
  intro pins s σ H o i v ov iv u Q I ro ri rv h
  obtain ⟨p, xs, k, j, rfl, rfl, hp, hj, q⟩ := h
  cases ro
  obtain ⟨t, rfl⟩ := ri
  obtain ⟨its, n, r, ho, hz⟩ := I.lst hp
  obtain ⟨h1, h2, h3, h4⟩ := ixN_seq hj
  have hl := r.length
  have hn := line63
  have I' : Inv X pins σ (upd H p (.lst (xs.set j v))) { s with heap := s.heap.update p (Obj.mapSeq (·.setIfInBounds j u)) } :=
    I.lstUpd hp ho (mapSeq_set its n j u) (r.set rv j) (by rw [List.length_set]; exact hz) s.toks
  by_cases h0 : 0 ≤ k
  · have hk : k.toNat = j := by
      rw [seqIndex_of h0 h4] at h1
      exact Option.some.inj h1
    exact PySem.W.ki_setAt ho h0 (by omega) (by rw [List.size_toArray, ← hl]; exact h4) (by rw [hk]; exact ⟨_, I', q⟩)
  · have hk : (k + (its.toArray.size : Int)).toNat = j := by
      rw [seqIndex_neg (by omega) h3] at h1
      rw [List.size_toArray, ← hl]
      exact Option.some.inj h1
    exact PySem.W.ki_setBack ho (by omega) (by rw [List.size_toArray, ← hl]; exact h3) (by omega) (by rw [hk]; exact ⟨_, I', q⟩)

theorem slice_bounds (lo hi : Option Int) (n : Nat) : (sliceBounds lo hi none n).1 = ((HT.sIx n 0 lo : Nat) : Int) ∧ (sliceBounds lo hi none n).2.1 = ((HT.sIx n n hi : Nat) : Int) ∧ (sliceBounds lo hi none n).2.2 = 1 := by
  refine ⟨?_, ?_, rfl⟩
  · cases lo with
    | none => simp [sliceBounds, HT.sIx]
    | some i =>
      simp only [sliceBounds, HT.sIx, Option.getD_none, show (1 : Int) > 0 by decide, if_true]
      by_cases h : i < 0
      · simp only [h, if_true] <;> omega
      · simp only [h, if_false] <;> omega
  · cases hi with
    | none => simp [sliceBounds, HT.sIx]
    | some i =>
      simp only [sliceBounds, HT.sIx, Option.getD_none, show (1 : Int) > 0 by decide, if_true]
      by_cases h : i < 0
      · simp only [h, if_true] <;> omega
      · simp only [h, if_false] <;> omega
theorem slicePick_cut (its : List Value) (lo hi : Option Int) : slicePick its.toArray lo hi none = ((its.drop (HT.sIx its.length 0 lo)).take (HT.sIx its.length its.length hi - HT.sIx its.length 0 lo)).toArray := by
  obtain ⟨h1, h2, h3⟩ := slice_bounds lo hi its.toArray.size
  unfold slicePick
  rw [h1, h2, h3]
  simp only [sliceRange_one, pick_run, List.size_toArray] <;> rfl
noncomputable def rSlL (K : PySem.W.Frag) : V → Option Int → Option Int → Hp → VK → Prop := fun x lo hi H Q => ∃ a xs, x = .ref a ∧ SqL K H a xs ∧ ∀ p, H p = none → Q (.ref p) (upd H p (.lst (cutV xs lo hi)))
theorem sl_list : SlR X (rSlL X.K) := by
  intro pins s σ H x v vl vu lo hi sl Q I rx hs pl pu h
  obtain ⟨a, xs, rfl, hx, q⟩ := h
  cases rx
  obtain ⟨its, r, ht, hz⟩ := I.list hx
  have hlen := r.length
  refine ⟨"list", _, slot_list_getitem.lookup, ht.isList.typeIs, ?_⟩
  refine wpAny_getItem_list_slice ht.isList hs pl pu .none (by simp) ?_ (by rw [List.size_toArray] <;> omega)
  rw [slicePick_cut, ← hlen]
  refine ⟨.ref s.heap.objs.size, _, I.laid (t' := s.toks) (o := .lst (cutV xs lo hi)) (fun b ob q => Heap.get?_push_of_some _ q) (Nat.le_refl _) ?_, rfl, q _ (I.hok.fresh (Nat.le_refl _))⟩
  exact ⟨Nat.le_trans (cutV_length xs lo hi) hz, _, 0, (r.drop (HT.sIx xs.length 0 lo)).take (HT.sIx xs.length xs.length hi - HT.sIx xs.length 0 lo), Heap.get?_push_size _ rfl⟩

noncomputable def flatV : V → Bool
  | .non => true
  | .bl _ => true
  | .int _ => true
  | .str _ => true
  | _ => false
noncomputable def eqV : V → V → Bool
  | .non, .non => true
  | .bl a, .bl b => a == b
  | .bl a, .int b => (if a then 1 else 0) == b
  | .int a, .bl b => a == (if b then 1 else 0)
  | .int a, .int b => a == b
  | .str a, .str b => a == b
  | _, _ => false
theorem eqAt_V {A : Around} {s : Shared} {y x : V} {u v : Value} (ry : RelV y u) (rx : RelV x v) (fy : flatV y = true) (fx : flatV x = true) : SeqAt.EqAt A s u v (eqV y x) := by
  cases y with
  | non =>
    cases ry
    cases x with
    | non => cases rx; exact SeqAt.EqAt.same _
    | bl b => cases rx; exact SeqAt.EqAt.none_bool b
    | int b => obtain ⟨t, rfl⟩ := rx; exact SeqAt.EqAt.none_int b t
    | str b => obtain ⟨t, rfl⟩ := rx; exact SeqAt.EqAt.none_str b t
    | _ => exact absurd (show false = true from fx) Bool.false_ne_true
  | bl a =>
    cases ry
    cases x with
    | non => cases rx; exact SeqAt.EqAt.bool_none a
    | bl b => cases rx; exact SeqAt.EqAt.bool_bool a b
    | int b => obtain ⟨t, rfl⟩ := rx; exact SeqAt.EqAt.bool_int a b t
    | str b => obtain ⟨t, rfl⟩ := rx; exact SeqAt.EqAt.bool_str a b t
    | _ => exact absurd (show false = true from fx) Bool.false_ne_true
  | int a =>
    obtain ⟨t', rfl⟩ := ry
    cases x with
    | non => cases rx; exact SeqAt.EqAt.int_none a t'
    | bl b => cases rx; exact SeqAt.EqAt.int_bool a t' b
    | int b => obtain ⟨t, rfl⟩ := rx; exact SeqAt.EqAt.int_int a t' b t
    | str b => obtain ⟨t, rfl⟩ := rx; exact SeqAt.EqAt.int_str a t' b t
    | _ => exact absurd (show false = true from fx) Bool.false_ne_true
  | str a =>
    obtain ⟨t', rfl⟩ := ry
    cases x with
    | non => cases rx; exact SeqAt.EqAt.str_none a t'
    | bl b => cases rx; exact SeqAt.EqAt.str_bool a t' b
    | int b => obtain ⟨t, rfl⟩ := rx; exact SeqAt.EqAt.str_int a t' b t
    | str b => obtain ⟨t, rfl⟩ := rx; exact SeqAt.EqAt.str_str a t' b t
    | _ => exact absurd (show false = true from fx) Bool.false_ne_true
  | _ => exact absurd (show false = true from fy) Bool.false_ne_true
noncomputable def eqU (x : V) (u : Value) : Bool := match u with
  | .none => eqV .non x
  | .bool b => eqV (.bl b) x
  | .int i _ => eqV (.int i) x
  | .str z _ => eqV (.str z) x
  | _ => false
theorem eqU_of {x y : V} {u : Value} (r : RelV y u) (f : flatV y = true) : eqU x u = eqV y x := by
  cases y with
  | non => cases r; rfl
  | bl b => cases r; rfl
  | int i => obtain ⟨t, rfl⟩ := r; rfl
  | str z => obtain ⟨t, rfl⟩ := r; rfl
  | _ => exact absurd (show false = true from f) Bool.false_ne_true
theorem any_eqU {x : V} : ∀ {xs : List V} {us : List Value}, Vals xs us → xs.all flatV = true → us.any (eqU x) = xs.any fun y => eqV y x
  | _, _, .nil, _ => rfl
  | y :: xs, u :: us, .cons r t, f => by
    rw [List.all_cons, Bool.and_eq_true] at f
    rw [List.any_cons, List.any_cons, eqU_of r f.1, any_eqU t f.2]
theorem mem_eqAt {A : Around} {s : Shared} {x : V} {v : Value} (rx : RelV x v) (fx : flatV x = true) : ∀ {xs : List V} {us : List Value}, Vals xs us → xs.all flatV = true → ∀ u ∈ us, SeqAt.EqAt A s u v (eqU x u)
  | _, _, .nil, _ => fun u hu => by cases hu
  | y :: xs, u :: us, .cons r t, f => fun u' hu => by
    rw [List.all_cons, Bool.and_eq_true] at f
    rcases List.mem_cons.mp hu with rfl | hu
    · rw [eqU_of r f.1]; exact eqAt_V r rx f.1 fx
    · exact mem_eqAt rx fx t f.2 u' hu
noncomputable def inV (x : V) (xs : List V) : Bool := xs.any fun y => eqV y x
noncomputable def rIn (K : PySem.W.Frag) (neg : Bool) : R2 := fun x y H Q => ∃ p xs, y = .ref p ∧ (SqL K H p xs ∨ SqT K H p xs) ∧ flatV x = true ∧ xs.all flatV = true ∧ Q (.bl (if neg then !inV x xs else inV x xs)) H
theorem op_notIn_seq : OpR X (compareOp .NotIn) (rIn X.K true) := by
  intro pins s σ H x y v u Q I rx ry h
  obtain ⟨p, xs, rfl, hq, fx, fs, q⟩ := h
  cases ry
  rcases hq with hq | hq
  · obtain ⟨its, r, pl, hz⟩ := I.list hq
    refine SeqAt.notIn_listAt (eqU x) pl.isList (fun w hw => mem_eqAt rx fx r fs w (by simpa using hw)) ⟨.bl _, H, I, rfl, ?_⟩
    rw [show its.toArray.any (eqU x) = its.any (eqU x) by simp, any_eqU r fs]
    exact q
  · obtain ⟨its, r, pl, hz⟩ := I.tuple hq
    refine SeqAt.notIn_tupleAt (eqU x) pl (fun w hw => mem_eqAt rx fx r fs w (by simpa using hw)) ⟨.bl _, H, I, rfl, ?_⟩
    rw [show its.toArray.any (eqU x) = its.any (eqU x) by simp, any_eqU r fs]
    exact q
theorem call_len_seq : CallR X (.builtin "len") (fun xs H Q => ∃ p ys, xs = [.ref p] ∧ (SqL X.K H p ys ∨ SqT X.K H p ys) ∧ Q (.int ys.length) H) := by
  intro pins s σ H xs us Q I r h
  obtain ⟨p, ys, rfl, hq, q⟩ := h
  obtain ⟨u, rfl, rx⟩ := vals1 r
  cases rx
  have hn := line63
  rcases hq with hq | hq
  · obtain ⟨its, r', pl, hz⟩ := I.list hq
    have hlen := r'.length
    exact Calls.call_len_list pl.isList (by simp only [List.size_toArray] <;> omega) ⟨.int ys.length, H, I.tok _, ⟨s.toks + 1, by rw [List.size_toArray, hlen]⟩, q⟩
  · obtain ⟨its, r', pl, hz⟩ := I.tuple hq
    have hlen := r'.length
    exact len_tuple pl (by simp only [List.size_toArray] <;> omega) ⟨.int ys.length, H, I.tok _, ⟨s.toks + 1, by rw [List.size_toArray, hlen]⟩, q⟩
theorem CallR.or {f : Value} {r r' : List V → Hp → VK → Prop} (h : CallR X f r) (h' : CallR X f r') : CallR X f (fun xs H Q => r xs H Q ∨ r' xs H Q) := by
  intro pins s σ H xs us Q I rs q
  rcases q with q | q
  · exact h pins s σ H xs us Q I rs q
  · exact h' pins s σ H xs us Q I rs q
theorem call_list_of : CallR X (.type "list") (fun xs H Q => ∃ p ys, xs = [.ref p] ∧ (SqL X.K H p ys ∨ SqT X.K H p ys) ∧ ∀ l, H l = none → Q (.ref l) (upd H l (.lst ys))) := by
  intro pins s σ H xs us Q I r h
  obtain ⟨p, ys, rfl, hq, q⟩ := h
  obtain ⟨u, rfl, rx⟩ := vals1 r
  cases rx
  have fin : ∀ (its : List Value), Vals ys its → ys.length ≤ sizeLine → ∀ (h' : Heap) (c' : Nat), (∀ b o', s.heap.get? b = some o' → h'.get? b = some o') →
      h'.get? s.heap.objs.size = some { cls := .type "list", dict := none, data := .seq its.toArray c', slots := #[] } → EP X pins σ Q (.ref s.heap.objs.size) { s with heap := h' } := fun its r' hz h' c' kp e =>
    ⟨.ref s.heap.objs.size, _, I.laid (t' := s.toks) kp (Nat.le_refl _) (show ObjOk X.prog X.w _ h' _ (.lst ys) from ⟨hz, its, c', r', e⟩), rfl, q _ (I.hok.fresh (Nat.le_refl _))⟩
  rcases hq with hq | hq
  · obtain ⟨its, r', pl, hz⟩ := I.list hq
    have hlen := r'.length
    obtain ⟨o, ho, hc, n, hd⟩ := pl.isList
    exact call_list_seq p (.inl rfl) ho hc hd (fun h' c' kp e => fin its r' hz h' c' kp e) (by simp only [List.size_toArray] <;> omega)
  · obtain ⟨its, r', pl, hz⟩ := I.tuple hq
    have hlen := r'.length
    obtain ⟨o, ho, hc, n, hd⟩ := pl
    exact call_list_seq p (.inr rfl) ho hc hd (fun h' c' kp e => fin its r' hz h' c' kp e) (by simp only [List.size_toArray] <;> omega)
noncomputable def tyV (K : PySem.W.Frag) (T : String) (x : V) (H : Hp) : Prop := match x with
  | .str _ => T = "str"
  | .int _ => T = "int"
  | .ref p => (T = "list" ∧ ∃ xs, SqL K H p xs) ∨ (T = "tuple" ∧ ∃ o, K.lookup p = some o ∧ o.cls = .type "tuple" ∧ o.dict = none) ∨
      (T = "dict" ∧ ((∃ kvs, H p = some (.dK kvs)) ∨ ∃ kvs, H p = some (.dT kvs))) ∨ (T = "set" ∧ ∃ S n, H p = some (.set S n))
  | _ => False
theorem tyV_is {pins : List (Addr × Obj)} {σ : St} {H : Hp} {s : Shared} {T : String} {x : V} {v : Value} (I : Inv X pins σ H s) (r : RelV x v) (ty : tyV X.K T x H) :
    s.TypeIs v T ∧ ∀ a, v = .ref a → ∃ ob, s.heap.get? a = some ob ∧ ob.dict = none := by
  cases x with
  | str z =>
    obtain ⟨t, rfl⟩ := r
    cases (show T = "str" from ty)
    exact ⟨typeIs_str s z t, fun _ e => nomatch e⟩
  | int i =>
    obtain ⟨t, rfl⟩ := r
    cases (show T = "int" from ty)
    exact ⟨typeIs_int s i t, fun _ e => nomatch e⟩
  | ref p =>
    cases r
    rcases ty with ⟨rfl, xs, hq⟩ | ⟨rfl, o, hk, hc, hd⟩ | ⟨rfl, hk⟩ | ⟨rfl, S, n, hk⟩
    · obtain ⟨its, _, pl, _⟩ := I.list hq
      refine ⟨pl.isList.typeIs, fun a e => ?_⟩
      cases e
      obtain ⟨o, n, e, c, hd, _⟩ := pl
      exact ⟨o, e, hd⟩
    · refine ⟨⟨o, I.kIn p o hk, hc⟩, fun a e => ?_⟩
      cases e
      exact ⟨o, I.kIn _ o hk, hd⟩
    · have z : ∃ o, s.heap.get? p = some o ∧ o.ExactDict := by
        rcases hk with ⟨kvs, hk⟩ | ⟨kvs, hk⟩
        · obtain ⟨_, _, _, _, o, _, _, e, ex, _⟩ := I.hok p _ hk
          exact ⟨o, e, ex⟩
        · obtain ⟨_, _, _, _, o, _, _, e, ex, _⟩ := I.hok p _ hk
          exact ⟨o, e, ex⟩
      obtain ⟨o, e, ex⟩ := z
      refine ⟨⟨o, e, ex.1⟩, fun a e2 => ?_⟩
      cases e2
      exact ⟨o, e, ex.2.1⟩
    · obtain ⟨o, _, _, _, e, ex, _⟩ := I.hok p _ hk
      refine ⟨⟨o, e, ex.1⟩, fun a e2 => ?_⟩
      cases e2
      exact ⟨o, e, ex.2.1⟩
  | _ => exact False.elim ty
noncomputable def tBM (K : PySem.W.Frag) (T : String) (r : V → List V → Hp → VK → Prop) (to : TE) (t : TA) : TE := fun σ H Q => to σ H fun x H1 => tyV K T x H1 ∧ t σ H1 fun xs H2 => r x xs H2 Q
variable {o e : Expr} {es : List Expr} {to : TE} {t : TA} {name : Str} {apos cpos : Pos} {T id : String} {r : V → List V → Hp → VK → Prop}
theorem pe_bm (pa : PlainAttrs T) (slot : Slot T name id) (hty : typeOf (.builtin id) = pure (.type "method_descriptor")) (hm : MtR X id r) (ho : PE X o to) (ha : PA X (e :: es) t)
    (hbase : attributeBase o name X.env (eval o X.env) = eval o X.env := by rfl)
    (hfew : ((backTo cpos (starEach (e :: es) X.env)).all (fun x => !x.1) && (backToKw cpos (keywordEach [] X.env)).all (fun x => x.1.isSome)
      && decide ((e :: es).length + ([] : List Keyword).length + (if ([] : List Keyword).isEmpty then 0 else 1) < 30)) = true := by rfl)
    (hline : (apos.endLine == cpos.line) = true := by rfl) (hs : starEach (e :: es) X.env = (false, eval e X.env) :: starEach es X.env := by rfl) (hplain : (backTo cpos (starEach es X.env)).any (·.1) = false := by rfl) :
    PE X (.Call (.Attribute o name apos) (e :: es) [] cpos) (tBM X.K T r to t) := by
  intro pins s σ H Q I h
  refine wpAny_Call_method_late hbase hfew hline rfl (thn (ho pins s σ H _ I h) fun v s1 hpat => ?_)
  obtain ⟨x, H1, I1, r1, ty, q1⟩ := hpat
  obtain ⟨h1, h2⟩ := tyV_is I1 r1 ty
  refine ⟨T, id, pa, slot, hty, h1, h2, ?_⟩
  have hA := ha cpos pins s1 σ H1 _ I1 q1
  rw [hs] at hA ⊢
  refine Calls.callWith_builtin (by show (false || (backTo cpos (starEach es X.env)).any (·.1)) = false; rw [hplain] <;> rfl) (Calls.evalArgs_plain ?_)
  exact thn hA fun us s2 ⟨vs, H2, I2, r2, q2⟩ => hm pins s2 σ H2 x vs v us Q I2 r1 r2 q2
/- xs.append(e), list.index on a module's tuple .. are MtR facts of 06m -/
end
end L2

namespace L2
open PySem PySem.Spec PyProof.Rows

noncomputable def MtM (X : Cx) (id : String) (r : V → List V → Hp → VK → Prop) : Prop :=
  ∀ (pins : List (Addr × Obj)) (s : Shared) (σ : St) (H : Hp) (x : V) (xs : List V) (v : Value) (us : List Value) (Q : VK), Inv X pins σ H s → RelV x v → Vals xs us → r x xs H Q →
    wpAny (model X.prog X.w) X.A (call (.builtin id) (v :: us)) (EP X pins σ Q) X.xe s

theorem Vals.one : ∀ {x : V} {us : List Value}, Vals [x] us → ∃ u, us = [u] ∧ RelV x u
  | _, _, .cons r .nil => ⟨_, rfl, r⟩
theorem Vals.zero : ∀ {us : List Value}, Vals [] us → us = []
  | _, .nil => rfl
theorem Vals.reverse {xs : List V} {us : List Value} (h : Vals xs us) : Vals xs.reverse us.reverse := by
  induction h with
  | nil => exact .nil
  | cons r t ih => rw [List.reverse_cons, List.reverse_cons]; exact Vals.append ih (.cons r .nil)
section
variable {X : Cx} {pins : List (Addr × Obj)} {σ : St} {H : Hp} {s : Shared} {l b : Addr} {xs ys zs : List V}

theorem Inv.lset {its its' : List Value} {n : Nat} {f : Array Value → Array Value} {t' : Nat} (I : Inv X pins σ H s) (hH : H l = some (.lst xs))
    (e : s.heap.get? l = some { cls := .type "list", data := .seq its.toArray n }) (hf : f its.toArray = its'.toArray) (hv : Vals ys its') (hz : ys.length ≤ sizeLine) :
    Inv X pins σ (upd H l (.lst ys)) { s with heap := s.heap.update l (Obj.mapSeq f), toks := t' } := by
  have q := PySem.IsL.update e f
  rw [hf] at q
  refine I.write (x := l) (e := l) (by rw [hH]; exact trivial) (.inl rfl) (fun b' u hb hu => (Heap.get?_update_other s.heap (Obj.mapSeq f) (Ne.symm hb)).trans hu) ⟨_, q⟩ ?_
  exact ⟨hz, its', _, hv, q⟩
theorem Inv.lnew {its : List Value} {t' : Nat} (I : Inv X pins σ H s) (hv : Vals ys its) (hz : ys.length ≤ sizeLine) :
    Inv X pins σ (upd H s.heap.objs.size (.lst ys)) { s with heap := s.heap.push { cls := .type "list", data := .seq its.toArray }, toks := t' } :=
  I.laid (fun _ _ q => Heap.get?_push_of_some _ q) (Nat.le_refl _) ⟨hz, its, 0, hv, Heap.get?_push_size _ rfl⟩
theorem Inv.fresh (I : Inv X pins σ H s) : H s.heap.objs.size = none := I.hok.fresh (Nat.le_refl _)
theorem Inv.lstM (I : Inv X pins σ H s) (hH : H l = some (.lst xs)) : xs.length ≤ sizeLine ∧ ∃ (its : List Value) (n : Nat), Vals xs its ∧ xs.length = its.length ∧ s.heap.get? l = some { cls := .type "list", data := .seq its.toArray n } := by
  obtain ⟨z, its, n, r, e⟩ := I.hok l _ hH
  exact ⟨z, its, n, r, r.length, e⟩

end

section
variable {X : Cx}

noncomputable def rAppend : V → List V → Hp → VK → Prop := fun x vs H Q => ∃ l xs y, x = .ref l ∧ vs = [y] ∧ H l = some (.lst xs) ∧ xs.length < sizeLine ∧ Q .non (upd H l (.lst (xs ++ [y])))
theorem mt_append : MtM X "list.append" rAppend := by
  intro pins s σ H x vs v us Q I rx rv h
  obtain ⟨l, xs, y, rfl, rfl, hH, hz, q⟩ := h
  cases rx
  obtain ⟨u, rfl, ru⟩ := rv.one
  obtain ⟨z, its, n, r, hl, e⟩ := I.lstM hH
  refine call_meets F.slot_list_append ⟨_, e, rfl⟩ F.entry_list_append (F.args_list_append_2 _ _) (PySem.list_append l its.toArray n u (by rw [List.size_toArray]; omega)) ⟨e, ?_⟩
  refine ⟨.non, _, I.lset (its' := its ++ [u]) hH e (by simp) (r.append (.cons ru .nil)) ?_, rfl, q⟩
  rw [List.length_append, List.length_singleton]
  omega

end

section
variable {prog : Program} {w : World} {A : Around} {E : Value → Shared → Prop} {s : Shared}
end

section
variable {X : Cx}
end
end L2

namespace Att
open PySem PySem.W PySem.Calls PyProof.Rows

theorem ints_of_wellAll {P : Params} {h : Heap} : ∀ (ns : List Int) (vs : List Value), WellAll P h vs (ns.map WData.int) → IntsAre vs ns := by
  intro ns
  induction ns with
  | nil =>
    intro vs w
    rw [List.map_nil] at w
    cases w
    exact .nil
  | cons n ns ih =>
    intro vs w
    rw [List.map_cons] at w
    cases w with
    | cons a b =>
      cases a
      exact .cons _ _ (ih _ b)

theorem script_of {l : OpenLaw} {n : Nat} (hn : l.most = some n) {P : Params} {h : Heap} {args : List WData} {vals : List Value}
    (hpre : l.row.toRowW.claim.pre args = true) (hwl : WellAll P h vals args) :
    ∃ a vs ns, vals = [Value.ref a] ∧ args = [WData.list (ns.map WData.int)] ∧ h.get? a = some { cls := .type "list", data := .seq vs.toArray } ∧ IntsAre vs ns ∧ ns.length ≤ n := by
  have hsh : WShape.hasAll [] args [.list .int] = true := (pre_splitW hpre).1
  have hc : l.pre.holds [] { args := args } = true := (pre_splitW hpre).2
  obtain ⟨d, r, rfl, h1, h2⟩ := hasAllW_cons hsh
  obtain rfl := hasAllW_nil h2
  obtain ⟨xs, rfl, h3⟩ := hasW_list h1
  obtain ⟨ns, rfl⟩ := items_int h3
  have hlen : ns.length ≤ n := by
    unfold OpenLaw.pre at hc
    have h4 : (WTm.not (.lt (.lit (.int (n : Int))) (.len (.arg 0)))).holds [] { args := [.list (ns.map .int)] } = true := by
      have h4 := (holds_andW hc).1
      rw [hn] at h4
      exact h4
    have h5 := condW_of h4 (w_not (w_lt w_lit (w_len_list (w_arg rfl))))
    rw [List.length_map] at h5
    refine Nat.le_of_not_lt fun q => ?_
    have q' : (n : Int) < ((ns.length : Nat) : Int) := by omega
    first
      | (rw [decide_eq_true q'] at h5; exact absurd h5 (by decide))
      | (simp at h5; omega)
  cases hwl with
  | cons w1 w2 =>
    cases w2
    cases w1 with
    | list ho hall => exact ⟨_, _, ns, rfl, rfl, ho, ints_of_wellAll ns _ hall, hlen⟩

theorem post_true (l : OpenLaw) (args : List WData) : l.row.toRowW.claim.post args (.bool true) args = true :=
  postW_of (r := l.row.toRowW) (X := (true == true))
    (show WShape.has [] (.bool true) .bool = true by first | rfl | decide | simp [WShape.has, WShape.arms, WShape.armsAll])
    (show (WTm.eq .res (.lit (.bool true))).value [] { args := args, res := some (.bool true), after := args } = some (.bool (true == true)) from w_eq_bool (w_res rfl) w_lit) rfl

theorem attach_call {l : OpenLaw} {n : Nat} {q : Program} {loose : List Str} {XP : (Str → Option Value) → Heap → Prop} {YP : World → Heap → Prop} {d : DefRec}
    (hn : l.most = some n) (hdf : d.params.defaults = [])
    (call : ∀ (w : World) (s₀ s₁ : Shared) (mg mb : Str → Option Value) (fa : Addr) (o : Obj) (pm cd doc : Value) (a : Addr) (vs : List Value) (ns : List Int),
      Ground q loose [] XP w s₀ mg mb s₁.heap → YP w s₁.heap →
      s₁.heap.get? fa = some o → o.data = .func (docDef d.name d.params d.body d.scope pm cd doc) → s₁.heap.CodeRec cd d.name → mg d.name = some (.ref fa) →
      s₁.heap.get? a = some { cls := .type "list", data := .seq vs.toArray } → IntsAre vs ns → ns.length ≤ n → s₁.gens = #[] →
      codeAny (model l.prog w) callerA (.call (.ref fa) ⟨[.ref a], []⟩) (fun r s' => r = .ok (.ret (.bool true)) ∧ OldK s₁.heap s'.heap ∧ s'.os = s₁.os ∧ AllBare s'.gens) s₁) :
    WalkO q loose XP YP l.row.toRowW d [] (fun f vs => PySem.call f vs) := by
  intro w s₀ s₁ mg mb G Y fa o pm cd doc dV kV ho hd hcd hD hmg hg args vals as hpre hlay hrd hwl hlo
  obtain rfl : dV = .none := Dflts.none hD hdf
  obtain rfl : kV = .none := Dflts.noKw hD
  obtain ⟨a, vs, ns, rfl, rfl, hobj, hints, hlen⟩ := script_of hn hpre hwl
  refine enter_call (codeAny_mono (call w s₀ s₁ mg mb fa o pm cd doc a vs ns G Y ho (fd_plain hd) hcd hmg hobj hints hlen hg) fun r s' hq => ?_)
  obtain ⟨rfl, h2, h3, h4⟩ := hq
  exact ⟨.inl ⟨.bool true, .bool true, [], rfl, fun _ => rfl, .bool true, post_true l _, fun _ => ⟨List.Pairwise.nil, fun _ hm => (nomatch hm)⟩⟩, h2, h3, h4⟩

section
variable {prog : Program} {w : World} {A : Around} {E : Value → Shared → Prop} {s : Shared} {K : Frag}

end
end Att

namespace L2
open PySem PySem.Spec PyProof.Rows

theorem vals_ints : ∀ {vs : List Value} {ns : List Int}, IntsAre vs ns → Vals (ns.map V.int) vs
  | _, _, .nil => .nil
  | _, _, .cons n t h => .cons ⟨t, rfl⟩ (vals_ints h)

noncomputable def Only (H : Hp) : Prop := ∀ b, H b = none ∨ ∃ o xs, H b = some (.frz o (.lst xs))

theorem law_call {P : Program} {w : World} {K : PySem.W.Frag} {mg mb : Str → Option Value} {CX : CXT} {k : Nat} {fa a : Addr} {fd : FuncData} {x : Str} {sp : Sp} {s₁ : Shared} {vs : List Value} {ns : List Int}
    (KX : K.In s₁.heap) (hns : s₁.heap.Ns mainGlobals mg) (hb : s₁.heap.Ns builtinsNs mb) (hbb : ∀ x : Str, x ≠ "__name__" → mb x = bootBuiltins x) (hlim : s₁.heap.NoLimit) (hg : s₁.gens = #[])
    (ha : s₁.heap.get? a = some { cls := .type "list", data := .seq vs.toArray }) (hi : IntsAre vs ns) (hl : ns.length ≤ sizeLine) (hr : Room k callerA)
    (F : ∀ base : Heap, K.In base → base.Ns mainGlobals mg → FnOk P w K mg base CX k fa fd [x] sp) (hbind : ∀ (s : Shared) (u : Value), BindsTo s fd ⟨[u], []⟩ [(x, u)])
    (hsp : ∀ H : Hp, Only H → SqL K H a (ns.map V.int) → sp [.ref a] H (fun v _ => v = .bl true) fun _ _ _ => False)
    (hCX : ∀ H e s', CX [] H s₁ (fun _ _ _ => False) e s' → False) :
    codeAny (model P w) callerA (.call (.ref fa) ⟨[.ref a], []⟩) (fun r s' => r = .ok (.ret (.bool true)) ∧ OldK s₁.heap s'.heap ∧ s'.os = s₁.os ∧ AllBare s'.gens) s₁ := by
  have rv := vals_ints hi
  have lenV := hi.length
  -- from an abstract heap in which nothing but the script may be tracked
  have core : ∀ H : Hp, Only H → SqL K H a (ns.map V.int) → HOk P w H s₁.heap → (∀ b, H b ≠ none → b = a) → (H a ≠ none → K.lookup a = none) →
      codeAny (model P w) callerA (.call (.ref fa) ⟨[.ref a], []⟩) (fun r s' => r = .ok (.ret (.bool true)) ∧ OldK s₁.heap s'.heap ∧ s'.os = s₁.os ∧ AllBare s'.gens) s₁ := by
    intro H hO hS hok hA hK
    have base_of : ∀ {b : Addr} {o : Obj}, s₁.heap.get? b = some o → H b = none → (hidT s₁.heap H).get? b = some o := fun e n => hidT_get e n
    have noA : ∀ {b : Addr} {o : Obj} {es : Array DictEntry} {ep : Nat}, s₁.heap.get? b = some o → o.data = .dict es ep → H b = none := fun {b o es ep} e d => by
      cases q : H b with
      | none => rfl
      | some u =>
        have e' : b = a := hA b (by rw [q]; simp)
        subst e'
        rw [ha] at e; cases e
        have d' : Data.seq vs.toArray _ = Data.dict es ep := d
        cases d'
    have nsK : ∀ {b : Addr} {m : Str → Option Value}, s₁.heap.Ns b m → (hidT s₁.heap H).Ns b m := fun {b m} ⟨o, es, ep, e, d, r⟩ => ⟨o, es, ep, base_of e (noA e d), d, r⟩
    have hKb : K.In (hidT s₁.heap H) := fun b o e => base_of (KX b o e) (by
      cases q : H b with
      | none => rfl
      | some u =>
        have e' : b = a := hA b (by rw [q]; simp)
        subst e'
        rw [hK (by rw [q]; simp)] at e; cases e)
    have hM : Mod K mg (hidT s₁.heap H) := ⟨hKb, nsK hns, ⟨mb, nsK hb, hbb⟩, let ⟨mc, h1, h2⟩ := hlim; ⟨mc, nsK h1, h2⟩⟩
    have e0 : Env0 P w K mg (hidT s₁.heap H) callerA [] s₁ H := ⟨rfl, hM, fun b o e => of_hidT e, Nat.le_of_eq (hidT_size _ _), trivial, fun b hb => absurd (show b ∈ ([] : List Addr) from hb) (by simp), hok, .of_eq hg⟩
    refine codeAny_mono ((F _ hKb (nsK hns)).run callerA [] s₁ H ⟨[.ref a], []⟩ [.ref a] [.ref a] _ _ hr e0 (hbind s₁ (.ref a)) (.cons rfl .nil) (hsp H hO hS)) fun r s' h => ?_
    cases r with
    | error e => exact (hCX H e s' h).elim
    | ok fl =>
      cases fl with
      | next => exact False.elim h
      | brk => exact False.elim h
      | cont => exact False.elim h
      | ret u =>
        obtain ⟨v, H', os, bare, un, hok', r', q⟩ := h
        have q' : v = .bl true := q
        subst q'
        obtain rfl : u = Value.bool true := r'
        refine ⟨rfl, OldK.of_keep fun b o e => ?_, os, bare⟩
        cases q : H b with
        | none => exact un.keep b o e q (by intro z; exact absurd (show b ∈ ([] : List Addr) from z) (by simp)) (by simp)
        | some u =>
          rcases hO b with z | ⟨ob, xs, z⟩
          · rw [q] at z; cases z
          · have z2 := un.frzs b ob _ z
            obtain ⟨e1, _⟩ := hok b _ z
            obtain ⟨e2, _⟩ := hok' b _ z2
            rw [e] at e1; cases e1
            exact e2
  cases hk : K.lookup a with
  | some o =>
    -- the script is one of the module's own objects
    have e := KX a o hk
    rw [ha] at e
    cases e
    refine core (fun _ => none) (fun _ => .inl rfl) (.inr ⟨_, vs.toArray, _, hk, rfl, rfl, rfl, by rw [List.size_toArray, lenV]; exact hl, by simpa using rv⟩) (fun b u z => by have z' : (none : Option HO) = some u := z; cases z') (fun b z => absurd rfl z) fun z => absurd rfl z
  | none =>
    refine core (fun b => if b = a then some (.frz { cls := .type "list", data := .seq vs.toArray } (.lst (ns.map V.int))) else none) (fun b => ?_) (.inl (.inr ⟨{ cls := .type "list", data := .seq vs.toArray }, if_pos rfl⟩)) (fun b u z => ?_) (fun b z => ?_) fun _ => hk
    · by_cases hb : b = a
      · exact .inr ⟨_, _, if_pos hb⟩
      · exact .inl (if_neg hb)
    · by_cases hb : b = a
      · have z' := (if_pos hb).symm.trans z
        cases z'
        subst hb
        exact ⟨ha, by rw [List.length_map]; exact hl, vs, _, rv, ha⟩
      · have z' := (if_neg hb).symm.trans z
        cases z'
    · by_cases hb : b = a
      · exact hb
      · exact absurd (if_neg hb) z
end L2

namespace L2
open PySem PySem.Spec PyProof.Rows

noncomputable abbrev KOf {K : PySem.W.Frag} {h : Heap} (_ : K.In h) : PySem.W.Frag := K

theorem walk_of {l : PySem.W.OpenLaw} {n k : Nat} {q : Program} {loose : List Str} {XP : (Str → Option Value) → Heap → Prop} {YP : World → Heap → Prop} {d : DefRec} {K : Params → PySem.W.Frag} {CX : World → CXT} {sp : World → Sp} {x : Str}
    (hn : l.most = some n) (hn2 : n ≤ sizeLine) (hdf : d.params.defaults = []) (hr : Room k callerA)
    (hY : ∀ (w : World) (h : Heap), YP w h → (K w.params).In h)
    (F : ∀ (w : World) (mg : Str → Option Value) (fa : Addr) (h : Heap), (K w.params).In h → h.Ns mainGlobals mg → mg d.name = some (.ref fa) →
      ∃ fd : FuncData, (∀ (s : Shared) (u : Value), BindsTo s fd ⟨[u], []⟩ [(x, u)]) ∧
        ∀ base : Heap, (K w.params).In base → base.Ns mainGlobals mg → FnOk l.prog w (K w.params) mg base (CX w) k fa fd [x] (sp w))
    (hsp : ∀ (w : World) (H : Hp) (a : Addr) (ns : List Int), ns.length ≤ n → Only H → SqL (K w.params) H a (ns.map V.int) → sp w [.ref a] H (fun v _ => v = .bl true) fun _ _ _ => False)
    (hCX : ∀ (w : World) (H : Hp) (s : Shared) (e : Value) (s' : Shared), CX w [] H s (fun _ _ _ => False) e s' → False) :
    PySem.W.WalkO q loose XP YP l.row.toRowW d [] (fun f vs => PySem.call f vs) := by
  refine Att.attach_call hn hdf fun w s₀ s₁ mg mb fa o pm cd doc a vs ns G Y ho hd hcd hmg hobj hints hlen hg => ?_
  have KX := hY w _ Y
  obtain ⟨fd, hb, hF⟩ := F w mg fa _ KX G.T.g hmg
  exact law_call KX G.T.g G.T.b G.T.builtins G.T.nolimit hg hobj hints (Nat.le_trans hlen hn2) hr hF hb (fun H hO hS => hsp w H a ns hlen hO hS) fun H e s' => hCX w H s₁ e s'
end L2

/- THE LAST THEOREM (shape; LID, My.* are yours):
   My.Adr: a structure of the addresses that your layer names (classes, functions); My.Txt K t: a structure (Prop) of the equations over K;
   My.txt_mk : {K} {implicit addresses ..} (e1 : nsIn K mainGlobals "law" = some (some (.ref f))) (e2 : K.lookup f = some ⟨oc, od, .func (fnOf "law" "law" params body scope dV kV doc pm an cdv ct), sl⟩) (e3 : codeIn K cdv "law" = true) .. : ∃ t, My.Txt K t

set_option maxRecDepth 100000 in
set_option maxHeartbeats 0 in
theorem PySem.Challenge.cw_LID_holds : PySem.Challenge.rw_LID.Holds := by
  w_on; o_law; k_head; (case hw => w_witness2)
  k_fill
  refine L2.walk_of (l := PySem.Challenge.rw_LID) (n := 63) (k := 40) (x := "script") (CX := fun w => ..) (sp := fun _ => My.sp_law) rfl (by decide) rfl ⟨rfl, by decide, by decide⟩ (fun w h Y => PySem.W.kIn_of Y) ?F ?S ?C
  case F =>
    intro w mg fa h KX G hmg
    have T : ∃ t, My.Txt (L2.KOf KX) t := by
      dsimp only [L2.KOf]                          -- K must stand as «<heap const> w.params» for k_is
      refine' My.txt_mk ?e1 ?e2 ?e3 ..
      (case e1 => PySem.W.k_is)                    -- in the order: a name -> its address -> its object -> its parts
      (case e2 => PySem.W.k_is)
      ..
    obtain ⟨t, T⟩ := T
    have e0 := hmg.symm.trans (PySem.W.mg_of KX G T.law)
    cases e0                                       -- fa is the law's own address
    exact ⟨_, fun s u => .of_eq rfl, fun base kb nb => My.law_fn T kb nb⟩     -- if «.of_eq rfl» comes too early: refine' ⟨_, ?b, fun base kb nb => My.law_fn T kb nb⟩; exact fun s u => .of_eq rfl
  case S => exact fun w H a ns hl hO hS => ..
  case C => exact ..
(the tactic k_is has no namespace: write k_is) -/

namespace L2
open PySem PySem.Spec PyProof.Rows

noncomputable def defArgs (s : Stmt) : Arguments := match s with
  | .FunctionDef _ a _ _ _ _ _ _ _ _ => a
  | _ => { posonlyargs := [], args := [], vararg := none, kwonlyargs := [], kw_defaults := [], kwarg := none, defaults := [] }
noncomputable def defBody (s : Stmt) : List Stmt := match s with
  | .FunctionDef _ _ b _ _ _ _ _ _ _ => b
  | _ => []
noncomputable def defScope (s : Stmt) : Scope := match s with
  | .FunctionDef _ _ _ _ _ _ sc _ _ _ => sc
  | _ => { kind := .function, names := [], isGenerator := false, isCoroutine := false }

noncomputable abbrev CX0 : CXT := fun _ _ _ _ _ _ => False
noncomputable abbrev E0 : XK := fun _ _ _ => False
theorem pass0 {X : Cx} : Passes CX0 X E0 := fun _ _ _ _ _ _ _ h => h.elim

structure Fun (K : PySem.W.Frag) (x qual : Str) (st : Stmt) (f : Addr) (fd : FuncData) : Prop where
  ex : ∃ (oc : Value) (od : Option Addr) (kV doc pm : Value) (an : Option Addr) (cdv ct : Value) (osl : Array (Option Value)),
    fd = PySem.W.fnOf x qual (defArgs st) (defBody st) (defScope st) .none kV doc pm an cdv ct ∧ K.lookup f = some ⟨oc, od, .func fd, osl⟩ ∧ PySem.W.codeIn K cdv qual = true
  kp : PySem.W.keepIn K (.ref f) = true
section
variable {P : Program} {w : World} {K : PySem.W.Frag} {mg : Str → Option Value} {base : Heap}
theorem Fun.ok {x qual : Str} {st : Stmt} {f : Addr} {fd : FuncData} {N ps : List Str} {k : Nat} {sp : Sp} (F : Fun K x qual st f fd) (S : FnScope N ps (defScope st)) (len : ∀ vs H Q E, sp vs H Q E → vs.length = ps.length)
    (hbody : ∀ (cdv : Value) (A : Around) (outer : List Env) (s : Shared) (H : Hp) (vs : List V) (Q : VK) (E : XK), Room k (A.deeper (envOfC qual (defScope st) s.heap.objs.size f cdv)) → sp vs H Q E →
      ∃ t, PSs (cxOf CX0 P w K mg base N qual (defScope st) f cdv A outer s H E).nox (defBody st) t ∧ t { nx := fun _ H' => Q .non H', rt := Q } (start N vs) H) : FnOk P w K mg base CX0 (k + 1) f fd ps sp := by
  obtain ⟨oc, od, kV, doc, pm, an, cdv, ct, osl, rfl, lk, hcd⟩ := F.ex
  refine fn_of lk hcd S len fun A outer s H vs Q E hr hsp => ?_
  obtain ⟨t, h, q⟩ := hbody cdv A outer s H vs Q E hr hsp
  exact ⟨t, h.nox, q⟩
theorem Fun.binds {x qual : Str} {st : Stmt} {f : Addr} {fd : FuncData} {ps : List Str} (F : Fun K x qual st f fd)
    (h : ∀ (kV doc pm : Value) (an : Option Addr) (cdv ct : Value) (us : List Value), us.length = ps.length → bindArgs (PySem.W.fnOf x qual (defArgs st) (defBody st) (defScope st) .none kV doc pm an cdv ct) ⟨us, []⟩ = pure (ps.zip us)) : Binds K fd ps [] := by
  obtain ⟨oc, od, kV, doc, pm, an, cdv, ct, osl, rfl, lk, hcd⟩ := F.ex
  exact .all (h kV doc pm an cdv ct)
theorem fun_mk {x qual : Str} {st : Stmt} {f : Addr} {oc : Value} {od an : Option Addr} {osl : Array (Option Value)} {kV doc pm cdv ct : Value} (l : K.lookup f = some ⟨oc, od, .func (PySem.W.fnOf x qual (defArgs st) (defBody st) (defScope st) .none kV doc pm an cdv ct), osl⟩)
    (c : PySem.W.codeIn K cdv qual = true) (k : PySem.W.keepIn K (.ref f) = true) : Fun K x qual st f (PySem.W.fnOf x qual (defArgs st) (defBody st) (defScope st) .none kV doc pm an cdv ct) := ⟨⟨oc, od, kV, doc, pm, an, cdv, ct, osl, rfl, l, c⟩, k⟩
end
section
variable {X : Cx}
theorem pv (i : Nat) {x : Str} {pos : Pos} (hN : X.N[i]? = some x := by rfl) (hv : Vis X.env.scope x := by first | exact Or.inl rfl | exact Or.inr (Or.inl rfl) | exact Or.inr (Or.inr rfl)) (hd : (x == ("__debug__" : Str)) = false := by decide)
    (hcd : (x == ("__classdict__" : Str)) = false := by decide) : PE X (.Name x pos) (tVar i) := pe_var hN hv hd hcd
end

theorem iteF {A B : Prop} (h : B) : if false = true then A else B := by
  rw [if_neg Bool.false_ne_true]
  exact h
theorem iteT {A B : Prop} (h : A) : if true = true then A else B := by
  rw [if_pos rfl]
  exact h
noncomputable def Same (H H' : Hp) : Prop := ∀ b o, H b = some o → H' b = some o
theorem Same.refl (H : Hp) : Same H H := fun _ _ h => h
theorem Same.trans {H H1 H2 : Hp} (a : Same H H1) (b : Same H1 H2) : Same H H2 := fun c o h => b c o (a c o h)
theorem Same.free {H H' : Hp} (e : Same H H') {l : Addr} (h : H' l = Option.none) : H l = Option.none := by
  cases q : H l with
  | none => rfl
  | some o =>
    rw [e l o q] at h
    cases h
theorem Same.seq {K : PySem.W.Frag} {H H' : Hp} {a : Addr} {xs : List V} (e : Same H H') (h : SqL K H a xs) : SqL K H' a xs := by
  rcases h with (h | ⟨o, h⟩) | h
  · exact .inl (.inl (e _ _ h))
  · exact .inl (.inr ⟨o, e _ _ h⟩)
  · exact .inr h

end L2

set_option Elab.async false
set_option linter.all false
set_option maxRecDepth 100000
namespace L2
open PySem PySem.Spec PyProof.Rows

noncomputable def clOf (cells : List (Str × Addr)) : List (Str × NameKind) → List (Str × Addr) → List (Str × Addr)
  | [], cs => cs
  | (n, k) :: r, cs => if k = .free then (match cells.lookup n with | some c => clOf cells r ((n, c) :: cs) | none => clOf cells r cs) else clOf cells r cs

theorem closure_run {env : Env} : ∀ (names : List (Str × NameKind)) (cs : List (Str × Addr)), (∀ x ∈ names, x.2 = .free → ∃ c, env.cells.lookup x.1 = some c) →
    (forIn names cs fun x r => if (x.2 == NameKind.free) = true then do let c ← cellOf env x.1; pure (ForInStep.yield ((x.1, c) :: r)) else pure (ForInStep.yield r) : Sem (List (Str × Addr))) = pure (clOf env.cells names cs)
  | [], cs, _ => rfl
  | (n, k) :: r, cs, h => by
    have hr : ∀ x ∈ r, x.2 = .free → ∃ c, env.cells.lookup x.1 = some c := fun x hx => h x (List.mem_cons_of_mem _ hx)
    rw [List.forIn_cons]
    by_cases hk : k = .free
    · subst hk
      obtain ⟨c, hc⟩ := h (n, .free) List.mem_cons_self rfl
      have hc' : env.cells.lookup n = some c := hc
      have e : cellOf env n = pure c := by unfold cellOf; rw [hc']
      simp only [beq_self_eq_true, if_true, e, pure_bind]
      rw [closure_run r _ hr]
      simp only [clOf, if_true, hc']
    · have hb : (k == NameKind.free) = false := by simpa using hk
      simp only [hb, Bool.false_eq_true, if_false, pure_bind]
      rw [closure_run r cs hr]
      simp only [clOf, hk, if_false]
theorem closureFor_clOf {env : Env} {scope : Scope} (h : ∀ x ∈ scope.names, x.2 = .free → ∃ c, env.cells.lookup x.1 = some c) : closureFor scope env = pure (clOf env.cells scope.names []) := by
  have q := closure_run (env := env) scope.names [] h
  simp only [closureFor]
  refine Eq.trans ?_ q
  have e : ∀ (m : Sem (List (Str × Addr))), (m >>= fun cs => pure cs) = m := fun m => by simp
  first | (rw [e]; rfl) | rfl | simp
theorem clOf_sub {cells : List (Str × Addr)} {x : Str} {c : Addr} : ∀ (names : List (Str × NameKind)) (cs : List (Str × Addr)), (∀ y d, cs.lookup y = some d → cells.lookup y = some d) → (clOf cells names cs).lookup x = some c → cells.lookup x = some c
  | [], cs, h, e => h x c e
  | (n, k) :: r, cs, h, e => by
    unfold clOf at e
    split at e
    · split at e
      · rename_i d hd
        refine clOf_sub r _ (fun y d' q => ?_) e
        rw [List.lookup_cons] at q
        split at q
        · rename_i hy
          have : y = n := by simpa using hy
          subst this
          cases q; exact hd
        · exact h y d' q
      · exact clOf_sub r cs h e
    · exact clOf_sub r cs h e
theorem clOf_mono {cells : List (Str × Addr)} {x : Str} : ∀ (names : List (Str × NameKind)) (cs : List (Str × Addr)), (cs.lookup x).isSome = true → ((clOf cells names cs).lookup x).isSome = true
  | [], cs, h => h
  | (n, k) :: r, cs, h => by
    unfold clOf
    split
    · split
      · refine clOf_mono r _ ?_
        rw [List.lookup_cons]; split
        · rfl
        · exact h
      · exact clOf_mono r cs h
    · exact clOf_mono r cs h
theorem clOf_has {cells : List (Str × Addr)} {x : Str} {c : Addr} (hc : cells.lookup x = some c) : ∀ (names : List (Str × NameKind)) (cs : List (Str × Addr)), (x, NameKind.free) ∈ names → ((clOf cells names cs).lookup x).isSome = true
  | [], cs, h => absurd h (by simp)
  | (n, k) :: r, cs, h => by
    unfold clOf
    rcases List.mem_cons.mp h with e | h
    · cases e
      rw [if_pos rfl, hc]
      refine clOf_mono r _ ?_
      simp [List.lookup_cons]
    · split
      · split
        · exact clOf_has hc r _ h
        · exact clOf_has hc r cs h
      · exact clOf_has hc r cs h

theorem lookup_relabel_free {env : Env} : ∀ {names : List (Str × NameKind)} {x : Str}, names.lookup x = some .free →
    (names.map fun (n, k) => if (k == NameKind.free && env.scope.kind == .function && env.kindOf n == some .cell) then (n, NameKind.cell) else (n, k)).lookup x = some .cell ∨
    (names.map fun (n, k) => if (k == NameKind.free && env.scope.kind == .function && env.kindOf n == some .cell) then (n, NameKind.cell) else (n, k)).lookup x = some .free
  | [], _, h => by simp at h
  | (n, k) :: r, x, h => by
    have ih := @lookup_relabel_free env r x
    show List.lookup x ((if (k == NameKind.free && env.scope.kind == .function && env.kindOf n == some .cell) = true then (n, NameKind.cell) else (n, k)) :: _) = _ ∨ List.lookup x ((if (k == NameKind.free && env.scope.kind == .function && env.kindOf n == some .cell) = true then (n, NameKind.cell) else (n, k)) :: _) = _
    by_cases hc : (k == NameKind.free && env.scope.kind == .function && env.kindOf n == some .cell) = true
    · rw [if_pos hc]
      cases hx : x == n with
      | true => left; simp only [List.lookup_cons, hx]
      | false => simp only [List.lookup_cons, hx] at h ⊢; exact ih h
    · rw [if_neg hc]
      cases hx : x == n with
      | true => right; simp only [List.lookup_cons, hx] at h ⊢; exact h
      | false => simp only [List.lookup_cons, hx] at h ⊢; exact ih h
theorem relabel_free_mem {env : Env} : ∀ {names : List (Str × NameKind)} {x : Str} {k : NameKind}, (∀ y ∈ names, y.2 ≠ .cell) →
    (names.map fun (n, k) => if (k == NameKind.free && env.scope.kind == .function && env.kindOf n == some .cell) then (n, NameKind.cell) else (n, k)).lookup x = some k → (k = .cell ∨ k = .free) → (x, NameKind.free) ∈ names
  | [], _, _, _, h, _ => by simp at h
  | (n, k') :: r, x, k, hc0, h, hk => by
    have ih := @relabel_free_mem env r x k (fun y hy => hc0 y (List.mem_cons_of_mem _ hy))
    have h : List.lookup x ((if (k' == NameKind.free && env.scope.kind == .function && env.kindOf n == some .cell) = true then (n, NameKind.cell) else (n, k')) :: _) = _ := h
    by_cases hc : (k' == NameKind.free && env.scope.kind == .function && env.kindOf n == some .cell) = true
    · rw [if_pos hc] at h
      have hf : k' = .free := by
        have := hc; simp only [Bool.and_eq_true] at this; simpa using this.1.1
      cases hx : x == n with
      | true =>
        have hxn : x = n := by simpa using hx
        subst hxn; subst hf; exact List.mem_cons_self
      | false => simp only [List.lookup_cons, hx] at h; exact List.mem_cons_of_mem _ (ih h hk)
    · rw [if_neg hc] at h
      cases hx : x == n with
      | true =>
        have hxn : x = n := by simpa using hx
        subst hxn
        simp only [List.lookup_cons, hx] at h
        have e : k' = k := Option.some.inj h
        subst e
        rcases hk with hk | hk
        · exact absurd hk (hc0 _ List.mem_cons_self)
        · subst hk; exact List.mem_cons_self
      | false => simp only [List.lookup_cons, hx] at h; exact List.mem_cons_of_mem _ (ih h hk)
end L2

set_option Elab.async false
set_option linter.all false
set_option maxRecDepth 100000
namespace L2
open PySem PySem.Spec PyProof.Rows

structure Blk (X : Cx) (sc : Scope) (N : List Str) (src : List (Option Nat)) : Prop where
  kind : sc.kind = .function
  nocell : ∀ y ∈ sc.names, y.2 ≠ .cell
  names : ∀ y ∈ sc.names, y.2 = .local → sc.names.lookup y.1 = some .local
  free : ∀ y ∈ sc.names, y.2 = .free → X.env.kindOf y.1 = some .cell ∨ X.env.kindOf y.1 = some .free
  fv : ∀ (j i : Nat), src[j]? = some (some i) → ∃ x, N[j]? = some x ∧ X.N[i]? = some x ∧ sc.names.lookup x = some .free
  len : src.length = N.length

noncomputable def blk0 (src : List (Option Nat)) (σ : St) : St := src.map fun o => o.bind fun i => (σ[i]?).join

noncomputable def blkCx (X : Cx) (sc : Scope) (C : Addr) (N : List Str) (fp : List Addr) (s : Shared) (H : Hp) : Cx where
  prog := X.prog
  w := X.w
  K := X.K
  mg := X.mg
  base := X.base
  A := X.A
  N := N
  s₀ := s
  H₀ := H
  env := compEnvC sc (clOf X.env.cells sc.names []) C X.env
  outer := X.stack
  stack := X.stack
  ex := fp
  fn := fun _ => false
  calm := true
  pn := []
  xe := fun _ _ => False

section
variable {X : Cx} {pins : List (Addr × Obj)} {σ : St} {H : Hp} {s : Shared}

theorem Blk.cl {sc : Scope} {N : List Str} {src : List (Option Nat)} (B : Blk X sc N src) (ok : X.Ok) : closureFor sc X.env = pure (clOf X.env.cells sc.names []) :=
  closureFor_clOf fun x hx hk => ok.has x.1 (B.free x hx hk)
theorem cl_sub {sc : Scope} {x : Str} {c : Addr} (h : (clOf X.env.cells sc.names []).lookup x = some c) : X.env.cells.lookup x = some c :=
  clOf_sub sc.names [] (fun y d e => by simp at e) h

theorem blk_start {sc : Scope} {N : List Str} {src : List (Option Nat)} {fp : List Addr} {D C : Addr} {h4 : Heap} {t : Nat} {m : Str → Option Value}
    (B : Blk X sc N src) (I : Inv X pins σ H s) (hc : X.calm = true) (hf : ∀ b ∈ fp, FpOk X pins H b) (hfo : ∀ b ∈ fp, ∃ o, s.heap.get? b = some o)
    (hk : ∀ b o, s.heap.get? b = some o → h4.get? b = some o) (hD : s.heap.objs.size ≤ D) (hDl : h4.get? D = some { cls := .type "list", data := .seq #[] 0 })
    (hn : h4.Ns C m) (hC : s.heap.objs.size ≤ C) (hDC : D ≠ C) :
    Inv (blkCx X sc C N fp s H) [] (blk0 src σ) (upd H D (.lst [])) { s with heap := h4, toks := t } := by
  have hHD : H D = none := I.hok.fresh hD
  have hHC : H C = none := I.hok.fresh hC
  have new : ObjOk X.prog X.w (upd H D (.lst [])) h4 D (.lst []) := ⟨Nat.zero_le _, [], 0, .nil, hDl⟩
  have cC : ∀ x c, X.env.cells.lookup x = some c → c ≠ C := fun x c e z => by
    obtain ⟨v, q⟩ := I.cell x c e
    exact absurd (Nat.lt_of_lt_of_le q.lt (by rw [z]; exact hC)) (Nat.lt_irrefl _)
  have cD : ∀ x c, X.env.cells.lookup x = some c → c ≠ D := fun x c e z => by
    obtain ⟨v, q⟩ := I.cell x c e
    exact absurd (Nat.lt_of_lt_of_le q.lt (by rw [z]; exact hD)) (Nat.lt_irrefl _)
  refine ⟨⟨I.ok.mod, ?_, I.ok.glob, I.ok.blt, hC, fun x y c h1 h2 => ?_, fun x hx => ?_, fun x c h _ => (by cases h), fun _ => I.ok.hd hc, I.ok.frames, .inl rfl, fun b hb => ⟨?_, fun x c e => ?_⟩, I.bs, Nat.le_trans I.ok.bsz I.sz, fun b o e hb => ?_, fun b hb z => ?_, I.stack, I.stkFree⟩,
    rfl, I.bare, Un.laid hk hD hHD, ⟨m, hn, fun i x v e1 e2 e3 => ?_⟩, fun x c e => ?_, ?_, fun x c e => ?_, fun p hp => ?_, I.hok.laid hk hD new, ?_⟩
  · show (relabel sc X.env).kind = _
    exact B.kind
  · exact I.ok.inj x y c (cl_sub h1) (cl_sub h2)
  · have hx' : (∃ k, (relabel sc X.env).names.lookup x = some k ∧ (k = .cell ∨ k = .free)) := by
      rcases hx with hx | hx
      · exact ⟨_, hx, .inl rfl⟩
      · exact ⟨_, hx, .inr rfl⟩
    obtain ⟨k, e, hk'⟩ := hx'
    have hm := relabel_free_mem B.nocell e hk'
    obtain ⟨c, hc'⟩ := I.ok.has x (B.free _ hm rfl)
    exact Option.isSome_iff_exists.mp (clOf_has hc' sc.names [] hm)
  · obtain ⟨o, e⟩ := hfo b hb
    exact Nat.ne_of_lt (Nat.lt_of_lt_of_le (Heap.lt_size e) hC)
  · exact (hf b hb).2.2.2.2.1 x c (cl_sub e)
  · rcases (hf b hb).2.2.2.1 with z | z
    · exact I.ok.noex b o e z
    · exact absurd (Nat.lt_of_lt_of_le (Heap.lt_size e) (Nat.le_trans I.ok.bsz z)) (Nat.lt_irrefl _)
  · rcases List.mem_cons.mp (I.stkSub b z) with z | z
    · exact (hf b hb).2.1 z
    · exact (hf b hb).2.2.1 z
  · have e2' : ∃ k, src[i]? = some (some k) ∧ σ[k]? = some (some v) := by
      unfold blk0 at e2
      rw [List.getElem?_map] at e2
      cases q : src[i]? with
      | none => rw [q] at e2; cases e2
      | some o =>
        rw [q] at e2
        cases o with
        | none => cases e2
        | some k =>
          refine ⟨k, rfl, ?_⟩
          have e2 : (σ[k]?).join = some v := Option.some.inj e2
          cases qq : σ[k]? with
          | none => rw [qq] at e2; cases e2
          | some z => rw [qq] at e2; exact congrArg some e2
    obtain ⟨k, ek, ev⟩ := e2'
    obtain ⟨x', n1, n2, n3⟩ := B.fv i k ek
    have : x' = x := by
      have e1 : N[i]? = some x := e1
      rw [n1] at e1; exact Option.some.inj e1
    subst this
    obtain ⟨m0, hn0, hl0⟩ := I.loc
    have hfk := B.free (x', .free) (PySem.mem_of_lookup n3) rfl
    obtain ⟨u, r, l⟩ := hl0 k x' v n2 ev (by rcases hfk with z | z; exact .inr (.inl z); exact .inr (.inr z))
    refine ⟨u, r, .inr ⟨?_, ?_⟩⟩
    · exact lookup_relabel_free n3
    · rcases l with ⟨l, _⟩ | ⟨_, c, ec, z⟩
      · rcases hfk with q | q <;> (rw [q] at l; cases l)
      · obtain ⟨c', ec'⟩ := Option.isSome_iff_exists.mp (clOf_has ec sc.names [] (PySem.mem_of_lookup n3))
        have := cl_sub ec'
        rw [ec] at this; cases this
        obtain ⟨o, ho, hd⟩ := z
        exact ⟨c, ec', o, hk c o ho, hd⟩
  · obtain ⟨v, o, ho, hd⟩ := I.cell x c (cl_sub e)
    exact ⟨v, o, hk c o ho, hd⟩
  · show upd H D _ C = none
    rw [upd_ne (Ne.symm hDC)]; exact hHC
  · rw [upd_ne (cD x c (cl_sub e))]; exact I.freeC x c (cl_sub e)
  · exact absurd (show p ∈ ([] : List (Addr × Obj)) ++ [] from hp) (by simp)
  · show (blk0 src σ).length = N.length
    unfold blk0; rw [List.length_map]; exact B.len
end
end L2

set_option Elab.async false
set_option linter.all false
set_option maxRecDepth 100000
namespace L2
open PySem PySem.Spec PyProof.Rows

noncomputable abbrev noE : Value → Shared → Prop := fun _ _ => False

theorem toE {α : Type} {t : Sem α} {Q Q' : α → Shared → Prop} {M : Model} {A : Around} {E : Value → Shared → Prop} {s : Shared} (h : wpAny M A t Q noE s) (hQ : ∀ a s, Q a s → Q' a s) : wpAny M A t Q' E s :=
  wpAny_mono h hQ fun _ _ x => x.elim

noncomputable abbrev compTests (ifs : List Expr) (env : Env) : Sem Bool := forIn ifs true fun c r => if r = true then do let ok ← isTrue c env (eval c env); pure (ForInStep.yield ok) else pure (ForInStep.yield r)

theorem compLoop_any {prog : Program} {w : World} {A : Around} {R : Result → Shared → Prop} {s : Shared} {elt target iter : Expr} {ifs : List Expr} {scope : Scope} {pos : Pos} {it acc : Value} {env : Env} (I : Nat → Shared → Prop)
    (turn : ∀ n s, I n s → wpAny (model prog w) A (pyNext it) (fun r s₁ => match r with
      | none => R (.ok .next) s₁
      | some v => wpAny (model prog w) A (letOwnedTupleGo target it v) (fun _ s₁' => wpAny (model prog w) A (assign target env v) (fun _ s₂ =>
          wpAny (model prog w) A (compTests ifs env) (fun ok s₃ =>
            if ok = true then wpAny (model prog w) A (eval elt env) (fun x s₄ =>
              wpAny (model prog w) A (call (.builtin "list.append") [acc, x]) (fun _ s₅ => ∃ m, m < n ∧ I m s₅) noE s₄) noE s₃
            else ∃ m, m < n ∧ I m s₃) noE s₂) noE s₁') noE s₁) noE s)
    (n : Nat) (h : I n s) :
    codeAny (model prog w) A (.compLoop (.ListComp elt [⟨target, iter, ifs, 0⟩] scope pos) 0 it acc env) R s := by
  refine codeAny_loop rfl I (fun n s hI => ?_) n h
  show wpAny _ A ((compTurn (.ListComp elt [⟨target, iter, ifs, 0⟩] scope pos) 0 it acc env).onRaise (fun x => do noteFrame x env; theTreesLotGoes x)) _ _ s
  refine wpAny_noted ?_
  rw [compTurn_list]
  refine wpAny_bind (wpAny_standAt (wpAny_bind (toE (turn n s hI) (fun r s₁ h₁ => ?_))))
  cases r with
  | none => exact wpAny_pure h₁
  | some v =>
    refine wpAny_bind (toE h₁ fun _ s₁' h₁' => ?_)
    refine wpAny_bind (toE h₁' (fun _ s₂ h₂ => wpAny_bind (toE h₂ (fun ok s₃ h₃ => ?_))))
    cases ok with
    | false => exact wpAny_pure ⟨rfl, h₃⟩
    | true =>
      exact wpAny_bind (wpAny_bind (toE h₃ (fun x s₄ h₄ => wpAny_bind (toE h₄ (fun _ s₅ h₅ => wpAny_pure (wpAny_pure ⟨rfl, h₅⟩))))))

noncomputable def PTs (X : Cx) (ifs : List Expr) (t : TT) : Prop :=
  ∀ (pins : List (Addr × Obj)) (s : Shared) (σ : St) (H : Hp) (Q : Bool → Hp → Prop), Inv X pins σ H s → t σ H Q → wpAny (model X.prog X.w) X.A (compTests ifs X.env) (TP X pins σ Q) X.xe s
noncomputable def tYes : TT := fun _ H Q => Q true H
theorem pts_nil {X : Cx} : PTs X [] tYes := fun pins s σ H Q I h => wpAny_pure ⟨H, I, h⟩
theorem pts_one {X : Cx} {c : Expr} {t : TT} (h : PT X c t) : PTs X [c] t := fun pins s σ H Q I q => wpAny_tests_one (h pins s σ H Q I q)

noncomputable def tComp (src : List (Option Nat)) (wi : TI) (g : TG) (tc : TT) (te : TE) : TE := fun σ H Q => wi σ H fun J H1 => ∀ D, H1 D = none → ∃ W : Nat → Nat → St → Hp → Prop, (∃ m, W 0 m (blk0 src σ) (upd H1 D (.lst []))) ∧ ∀ i m σ' H', W i m σ' H' →
  (J.stop i H' ∧ Q (.ref D) H') ∨ (J.go i H' ∧ ∃ N : St → Hp → Prop, (∀ σ2 H2, N σ2 H2 → ∃ m', m' < m ∧ W (i + 1) m' σ2 H2) ∧ ∀ x H2, J.yld i H' x H2 → g x σ' H2 fun σ3 H3 => tc σ3 H3 fun b H4 =>
    if b = true then te σ3 H4 fun y H5 => ∃ xs, H5 D = some (.lst xs) ∧ xs.length < sizeLine ∧ N σ3 (upd H5 D (.lst (xs ++ [y]))) else N σ3 H4)

section
variable {X : Cx}

theorem comp_block {sc : Scope} {N : List Str} {src : List (Option Nat)} {tg elt iter : Expr} {ifs : List Expr} {pos : Pos} {g : TG} {tc : TT} {te : TE} (B : Blk X sc N src) (hc : X.calm = true)
    (hg : ∀ C fp s H, PG (blkCx X sc C N fp s H) tg g) (ht : ∀ C fp s H, PTs (blkCx X sc C N fp s H) ifs tc) (he : ∀ C fp s H, PE (blkCx X sc C N fp s H) elt te)
    {pins : List (Addr × Obj)} {σ : St} {H : Hp} {s : Shared} {it : Addr} {fp : List Addr} {tn : Nat → Heap → Prop} {J : It} {Q : VK} {E : Value → Shared → Prop}
    (I : Inv X pins σ H s) (T : Turn X.prog X.w X.K tg J fp it tn) (st : tn 0 s.heap) (hf : ∀ b ∈ fp, FpOk X pins H b)
    (hW : ∀ D, H D = none → ∃ W : Nat → Nat → St → Hp → Prop, (∃ m, W 0 m (blk0 src σ) (upd H D (.lst []))) ∧ ∀ i m σ' H', W i m σ' H' →
      (J.stop i H' ∧ Q (.ref D) H') ∨ (J.go i H' ∧ ∃ N : St → Hp → Prop, (∀ σ2 H2, N σ2 H2 → ∃ m', m' < m ∧ W (i + 1) m' σ2 H2) ∧ ∀ x H2, J.yld i H' x H2 → g x σ' H2 fun σ3 H3 => tc σ3 H3 fun b H4 =>
        if b = true then te σ3 H4 fun y H5 => ∃ xs, H5 D = some (.lst xs) ∧ xs.length < sizeLine ∧ N σ3 (upd H5 D (.lst (xs ++ [y]))) else N σ3 H4))
    {RR : Value → Addr → Result → Shared → Prop}
    (hRR : ∀ D C H' s' m', Inv X pins σ H' s' → s'.heap.Ns C m' → H' C = none → s.heap.objs.size ≤ C → Q (.ref D) H' → RR (.ref D) C (.ok .next) s') :
    wpAny (model X.prog X.w) X.A (newList []) (fun acc s₃ => wpAny (model X.prog X.w) X.A (newFunctionEnv sc X.env.globals (clOf X.env.cells sc.names []) [] X.env.qual none .none (some X.env)) (fun cenv s₄ =>
      codeAny (model X.prog X.w) X.A (.compStart (.ListComp elt [⟨tg, iter, ifs, 0⟩] sc pos) 0 (.ref it) acc { cenv with scope := relabel sc X.env }) (RR acc cenv.locals) s₄) E s₃) E s := by
  refine wpAny_newObj_type (wpAny_newFunctionEnv B.nocell (by intro y hy; simp at hy) (fun h₁ hns₁ hsb₁ => ?_) B.kind)
  dsimp only at hns₁ hsb₁ ⊢
  generalize hH2 : s.heap.push { cls := .type "list", dict := none, data := .seq ([] : List Value).toArray } = H2 at hns₁ hsb₁ ⊢
  have hC : H2.objs.size = s.heap.objs.size + 1 := by rw [← hH2, Heap.size_push]
  have hDC : s.heap.objs.size ≠ H2.objs.size := by rw [hC]; exact Nat.ne_of_lt (Nat.lt_succ_self _)
  have hCle : s.heap.objs.size ≤ H2.objs.size := by rw [hC]; exact Nat.le_succ _
  have below : ∀ b, b < s.heap.objs.size → b ≠ H2.objs.size := fun b hb => by rw [hC]; exact Nat.ne_of_lt (Nat.lt_succ_of_lt hb)
  have old : ∀ b o, s.heap.get? b = some o → h₁.get? b = some o := fun b o e => hsb₁.extBut b o (below b (Heap.lt_size e)) (Heap.get?_push_of_some _ (hH2 ▸ Heap.get?_push_of_some _ e))
  have hacc : h₁.get? s.heap.objs.size = some { cls := .type "list", data := .seq #[] 0 } := hsb₁.extBut _ _ hDC (Heap.get?_push_of_some _ (hH2 ▸ Heap.get?_push_size _ rfl))
  have hfo : ∀ b ∈ fp, ∃ o, s.heap.get? b = some o := fun b hb => by obtain ⟨o, e, _⟩ := T.obj _ _ st b hb; exact ⟨o, e⟩
  have st1 : tn 0 h₁ := T.keep _ _ _ st fun b _ o e => old b o e
  obtain ⟨W, ⟨m0, w0⟩, turn⟩ := hW s.heap.objs.size I.fresh
  have I1 := blk_start (t := s.toks + ([] : List (Str × Value)).length) B I hc hf hfo old (Nat.le_refl _) hacc hns₁ hCle hDC
  -- the iterator's objects through the block
  have stat : ∀ {H' : Hp}, (∀ b ∈ fp, H' b = none) → ∀ b ∈ fp, FpOk (blkCx X sc H2.objs.size N fp s H) [] H' b := fun {H'} hn b hb => by
    obtain ⟨f0, f1, f2, f3, f4, f5⟩ := hf b hb
    refine ⟨hn b hb, I1.ok.exf b hb |>.1, I1.ok.exfs b hb, .inl hb, fun x c e => f4 x c (cl_sub e), fun p hp => absurd (show p ∈ ([] : List (Addr × Obj)) ++ [] from hp) (by simp)⟩
  have hfD : ∀ b ∈ fp, b ≠ s.heap.objs.size := fun b hb z => by
    obtain ⟨o, e⟩ := hfo b hb
    exact absurd (Heap.lt_size e) (by rw [z]; exact Nat.lt_irrefl _)
  have loop : ∀ s₃ : Shared, s₃ = { s with heap := h₁, toks := s.toks + ([] : List (Str × Value)).length } →
      codeAny (model X.prog X.w) X.A (.compLoop (.ListComp elt [⟨tg, iter, ifs, 0⟩] sc pos) 0 (.ref it) (.ref s.heap.objs.size) (compEnvC sc (clOf X.env.cells sc.names []) H2.objs.size X.env))
        (RR (.ref s.heap.objs.size) H2.objs.size) s₃ := by
    rintro s₃ rfl
    refine compLoop_any (fun n s' => ∃ i σ' H', Inv (blkCx X sc H2.objs.size N fp s H) [] σ' H' s' ∧ tn i s'.heap ∧ (∀ b ∈ fp, H' b = none) ∧ W i n σ' H') ?_ m0
      ⟨0, _, _, I1, st1, fun b hb => by rw [upd_ne (hfD b hb)]; exact (hf b hb).1, w0⟩
    rintro n s3 ⟨i, σ3, H3, I3, st3, fr3, w3⟩
    rcases turn i n σ3 H3 w3 with ⟨stop, qn⟩ | ⟨go, N', hN', step⟩
    · refine thn (T.done (blkCx X sc H2.objs.size N fp s H) rfl rfl rfl rfl i [] s3 σ3 H3 noE I3 (stat fr3) st3 stop) fun r s4 ⟨hr, I4⟩ => ?_
      subst hr
      obtain ⟨m4, hn4, _⟩ := id I4.loc
      refine hRR _ _ H3 s4 m4 ?_ hn4 I4.free hCle qn
      exact I.call' (ch := fp) I4.os I4.base I4.hok I4.bare fun b hb => ⟨(hf b hb).2.2.2.1, (hf b hb).2.1, (hf b hb).2.2.2.2.1, (hf b hb).2.2.2.2.2⟩
    · refine thn (T.item (blkCx X sc H2.objs.size N fp s H) rfl rfl rfl rfl i [] s3 σ3 H3 noE I3 (stat fr3) st3 go) fun r s4 ⟨u, hr, h4⟩ => ?_
      subst hr
      refine thn h4 fun _ s5 hpat => ?_
      obtain ⟨x, H5, I5, r5, y5, st5, fr5⟩ := hpat
      have I5' := I5.pinned (stat fr5) (T.obj _ _ st5)
      have again : ∀ {s7 : Shared} {σ7 : St} {H7 : Hp}, Inv (blkCx X sc H2.objs.size N fp s H) ([] ++ pinsAt fp s5.heap) σ7 H7 s7 → N' σ7 H7 → ∃ m, m < n ∧ ∃ i σ' H', Inv (blkCx X sc H2.objs.size N fp s H) [] σ' H' s7 ∧ tn i s7.heap ∧ (∀ b ∈ fp, H' b = none) ∧ W i m σ' H' := fun {s7 σ7 H7} I7 n7 => by
        obtain ⟨m', hm, w7⟩ := hN' σ7 H7 n7
        refine ⟨m', hm, i + 1, σ7, H7, I7.unpinned, T.keep _ _ _ st5 fun b hb o e => (I7.pin (b, o) (List.mem_append_right _ (List.mem_append_right _ (mem_pinsAt hb e)))).1, fun b hb => ?_, w7⟩
        obtain ⟨o, e, d⟩ := T.obj _ _ st5 b hb
        exact (I7.pin (b, o) (List.mem_append_right _ (List.mem_append_right _ (mem_pinsAt hb e)))).2.1
      refine thn (hg _ _ _ _ _ s5 σ3 H5 x u _ I5' r5 (step x H5 y5)) fun _ s6 hpat => ?_
      obtain ⟨σ6, H6, I6, q6⟩ := hpat
      refine thn (ht _ _ _ _ _ s6 σ6 H6 _ I6 q6) fun ok s7 hpat => ?_
      obtain ⟨H7, I7, q7⟩ := hpat
      cases ok with
      | false =>
        rw [if_neg Bool.false_ne_true] at q7 ⊢
        exact again I7 q7
      | true =>
        rw [if_pos rfl] at q7 ⊢
        refine thn (he _ _ _ _ _ s7 σ6 H7 _ I7 q7) fun y s8 hpat => ?_
        obtain ⟨v8, H8, I8, r8, q8⟩ := hpat
        obtain ⟨xs, hD8, hz8, n8⟩ := q8
        refine thn (mt_append _ s8 σ6 H8 (.ref s.heap.objs.size) [v8] (.ref s.heap.objs.size) [y] (fun _ H9 => H9 = upd H8 s.heap.objs.size (.lst (xs ++ [v8]))) I8 rfl (.cons r8 .nil) ⟨_, xs, v8, rfl, rfl, hD8, hz8, rfl⟩) fun _ s9 hpat => ?_
        obtain ⟨v9, H9, I9, r9, q9⟩ := hpat
        subst q9
        exact again I9 n8
  refine codeAny_compStart_list (loop _ rfl) (toE (T.self X.A 0 { s with heap := h₁, toks := s.toks + ([] : List (Str × Value)).length } (fun v s' => v = .ref it ∧ s' = { s with heap := h₁, toks := s.toks + ([] : List (Str × Value)).length }) noE st1 ⟨rfl, rfl⟩) fun v s' hpat => ?_)
  obtain ⟨e1, e2⟩ := hpat
  subst e1; subst e2
  exact loop _ rfl

theorem Inv.letGo {pins : List (Addr × Obj)} {σ : St} {H : Hp} {s s0 : Shared} {C : Addr} {h' : Heap} (I : Inv X pins σ H s) (I0 : ∃ σ0 H0, Inv X pins σ0 H0 s0) (hC : s0.heap.objs.size ≤ C) (hn : H C = none) (hs : Heap.SameBut C s.heap h') : Inv X pins σ H { s with heap := h' } := by
  obtain ⟨σ0, H0, I0⟩ := I0
  refine I.turned (t' := s.toks) (it := C) (fun b o hb e => (hs.2 b hb).trans e) hn (Nat.ne_of_gt (Nat.lt_of_lt_of_le I0.lt hC)) (.inr (Nat.le_trans I0.sz hC)) (fun x c e z => ?_) fun p hp z => ?_
  · obtain ⟨v, q⟩ := I0.cell x c e
    exact absurd (Nat.lt_of_lt_of_le q.lt (by rw [z]; exact hC)) (Nat.lt_irrefl _)
  · exact absurd (Nat.lt_of_lt_of_le (Heap.lt_size (I0.pin p hp).1) (by rw [z]; exact hC)) (Nat.lt_irrefl _)

theorem pe_comp {sc : Scope} {N : List Str} {src : List (Option Nat)} {tg elt iter : Expr} {ifs : List Expr} {pos : Pos} {wi : TI} {g : TG} {tc : TT} {te : TE} (B : Blk X sc N src) (hc : X.calm = true)
    (hi : PI X tg iter wi) (hg : ∀ C fp s H, PG (blkCx X sc C N fp s H) tg g) (ht : ∀ C fp s H, PTs (blkCx X sc C N fp s H) ifs tc) (he : ∀ C fp s H, PE (blkCx X sc C N fp s H) elt te)
    (hs : ∀ x, foldedSetIterable iter X.env x = pure x := by intro _; rfl) :
    PE X (.ListComp elt [⟨tg, iter, ifs, 0⟩] sc pos) (tComp src wi g tc te) := by
  intro pins s σ H Q I h
  rw [eval_ListComp]
  refine wpAny_comprehension_free (use := none) rfl hs (B.cl I.ok) B.kind B.names (wpAny_mono (hi pins s σ H _ I h) (fun xv s₁ h₁ => wpAny_mono h₁ (fun itv s₂ h₂ => ?_) fun _ _ e => e) fun _ _ e => e)
  obtain ⟨it, fp, tn, J, H2, rfl, I2, T, st2, f2, hW⟩ := h₂
  refine comp_block (RR := fun acc C => compPost (model X.prog X.w) X.A X.xe none (EP X pins σ Q) acc C) (Q := Q) B hc hg ht he I2 T st2 f2 hW ?_
  intro D C H' s' m' I' hn hC hCs q
  exact ⟨m', hn, fun h'' hs'' => ⟨.ref D, H', I'.letGo ⟨_, _, I2⟩ hCs hC hs'', rfl, q⟩⟩

theorem ps_setC {i : Nat} {y : Str} {py : Pos} {sc : Scope} {N : List Str} {src : List (Option Nat)} {tg elt iter : Expr} {ifs : List Expr} {pos spos : Pos} {wi : TI} {g : TG} {tc : TT} {te : TE} (hN : X.N.Nodup) (hi' : X.N[i]? = some y) (hx : Loc X.env.scope y)
    (B : Blk X sc N src) (hc : X.calm = true)
    (hi : PI X tg iter wi) (hg : ∀ C fp s H, PG (blkCx X sc C N fp s H) tg g) (ht : ∀ C fp s H, PTs (blkCx X sc C N fp s H) ifs tc) (he : ∀ C fp s H, PE (blkCx X sc C N fp s H) elt te)
    (hsw : swapsWith (.ListComp elt [⟨tg, iter, ifs, 0⟩] sc pos) (some (.Name y py)) spos.line X.env = pure true := by rfl)
    (hs : ∀ x, foldedSetIterable iter X.env x = pure x := by intro _; rfl) (hf : X.fn y = true ∨ X.env.scope.names.lookup y = some .local := by first | exact .inl rfl | exact .inr rfl | assumption) :
    PS X (.Assign [.Name y py] (.ListComp elt [⟨tg, iter, ifs, 0⟩] sc pos) spos) (tAsg (tComp src wi g tc te) (gName i)) := by
  intro pins s σ H Dn I h
  rw [exec_Assign_Name_used _ _ _ _ hsw]
  refine wpAny_bind (wpAny_standAt (wpAny_bind ?_))
  show wpAny _ _ (do let _ ← comprehension (.ListComp elt [⟨tg, iter, ifs, 0⟩] sc pos) sc X.env _ (newList []) false (eval iter X.env) (some (assign (.Name y py) X.env))) _ _ s
  refine wpAny_bind (wpAny_mono (wpAny_comprehension_free (use := some (assign (.Name y py) X.env)) (Q := fun _ s' => SP X pins Dn .next s') rfl hs (B.cl I.ok) B.kind B.names
    (wpAny_mono (hi pins s σ H _ I h) (fun xv s₁ h₁ => wpAny_mono h₁ (fun itv s₂ h₂ => ?_) fun _ _ e => e) fun _ _ e => e)) (fun _ s' hq => wpAny_pure (wpAny_pure hq)) fun _ _ e => e)
  obtain ⟨it, fp, tn, J, H2, rfl, I2, T, st2, f2, hW⟩ := h₂
  refine comp_block (RR := fun acc C => compPost (model X.prog X.w) X.A X.xe (some (assign (.Name y py) X.env)) (fun _ s' => SP X pins Dn .next s') acc C) (Q := fun x H1 => gName i x σ H1 Dn.nx) B hc hg ht he I2 T st2 f2 hW ?_
  intro D C H' s' m' I' hn hC hCs q
  show wpAny _ _ (assign (.Name y py) X.env (.ref D)) _ _ _
  refine wpAny_assign_Name (store_ok2 I' hN hi' hx (v := .ref D) rfl (fun s'' I'' hpat => ?_) hf)
  obtain ⟨a, hsb, ha⟩ := hpat
  have hCa : C ≠ a := fun z => by
    rcases ha with ha | ha
    · have := I2.lt; rw [← ha, ← z] at this
      exact absurd (Nat.lt_of_lt_of_le this hCs) (Nat.lt_irrefl _)
    · obtain ⟨v, qv⟩ := I2.cell y a ha
      exact absurd (Nat.lt_of_lt_of_le qv.lt (by rw [← z]; exact hCs)) (Nat.lt_irrefl _)
  exact ⟨m', hn.sameBut hsb hCa, fun h'' hs'' => ⟨_, H', I''.letGo ⟨_, _, I2⟩ hCs hC hs'', q⟩⟩
end
end L2

set_option Elab.async false
set_option linter.all false
set_option maxRecDepth 100000
namespace L2
open PySem PySem.Spec PyProof.Rows

section
variable {X : Cx} {pins : List (Addr × Obj)} {σ : St} {H : Hp} {s : Shared} {h' : Heap}
theorem Inv.turnedL {t' : Nat} {fp : List Addr} (I : Inv X pins σ H s) (k : ∀ b o, b ∉ fp → s.heap.get? b = some o → h'.get? b = some o) (hf : ∀ b ∈ fp, FpOk X pins H b) : Inv X pins σ H { s with heap := h', toks := t' } := by
  have nit : ∀ b u, H b = some u → b ∉ fp := fun b u e z => by rw [(hf b z).1] at e; cases e
  refine I.step (g' := s.gens) (d' := s.drawn) (ch := fp) (fun b hb => ⟨(hf b hb).2.2.2.1, (hf b hb).2.1, (hf b hb).2.2.2.2.1, (hf b hb).2.2.2.2.2⟩) (fun b o _ _ hc e _ => k b o hc e) (fun b o _ _ hc e _ => ⟨o.slots, k b o hc e⟩) (fun _ _ _ _ n => n)
    (fun b o hc e => ⟨o, k b o hc e⟩) (fun _ _ e => e) (fun _ _ _ e => e) (fun b ps e => ⟨#[], by rw [e]; simp⟩) (fun m hm => ?_) (fun b u e => ?_) I.bare
  · obtain ⟨o, es, ep, ho, r⟩ := hm
    exact ⟨o, es, ep, k _ o (fun z => (hf _ z).2.1 rfl) ho, r⟩
  · refine (I.hok b u e).stay (fun c v hc q => k c v ?_ q) (fun _ q => q) fun _ _ q => q
    rcases hc with z | z
    · rw [z]; exact nit b u e
    · exact nit c _ z
theorem Inv.turnedN {t' : Nat} {fp : List Addr} {T : Addr} {o : HO} (I : Inv X pins σ H s) (k : ∀ b o, b ∉ fp → s.heap.get? b = some o → h'.get? b = some o) (hf : ∀ b ∈ fp, FpOk X pins H b) (hT : s.heap.objs.size ≤ T)
    (new : ObjOk X.prog X.w (upd H T o) h' T o) : Inv X pins σ (upd H T o) { s with heap := h', toks := t' } := by
  have hn : H T = none := I.hok.fresh hT
  have ne : ∀ b u, s.heap.get? b = some u → b ≠ T := fun b u e z => absurd (Nat.lt_of_lt_of_le (Heap.lt_size e) (by rw [z]; exact hT)) (Nat.lt_irrefl _)
  have nit : ∀ b u, H b = some u → b ∉ fp := fun b u e z => by rw [(hf b z).1] at e; cases e
  refine I.step (g' := s.gens) (d' := s.drawn) (ch := fp) (fun b hb => ⟨(hf b hb).2.2.2.1, (hf b hb).2.1, (hf b hb).2.2.2.2.1, (hf b hb).2.2.2.2.2⟩) (fun b o _ _ hc e _ => k b o hc e) (fun b o _ _ hc e _ => ⟨o.slots, k b o hc e⟩) (fun b o _ e n => by rw [upd_ne (ne b o e)]; exact n)
    (fun b o hc e => ⟨o, k b o hc e⟩) (fun b xs e => by rw [upd_ne (ne_of_none e hn)]; exact e) (fun b _ _ e => by rw [upd_ne (ne_of_none e hn)]; exact e) (fun b ps e => ⟨#[], by rw [upd_ne (ne_of_none e hn), e]; simp⟩) (fun m hm => ?_) (fun b u e => ?_) I.bare
  · obtain ⟨o, es, ep, ho, r⟩ := hm
    exact ⟨o, es, ep, k _ o (fun z => (hf _ z).2.1 rfl) ho, r⟩
  · by_cases hb : b = T
    · subst hb; rw [upd_same] at e; cases e; exact new
    · rw [upd_ne hb] at e
      refine (I.hok b u e).stay (fun c v hc q => k c v ?_ q) (fun c q => by rw [upd_ne (ne_of_none q hn)]; exact q) fun c xs q => by rw [upd_ne (ne_of_none q hn)]; exact q
      rcases hc with z | z
      · rw [z]; exact nit b u e
      · exact nit c _ z
end

noncomputable def Itz2 (K : PySem.W.Frag) (l1 l2 : Addr) : It :=
  ⟨fun i H => ∃ xs ys x y, SqL K H l1 xs ∧ SqL K H l2 ys ∧ xs[i]? = some x ∧ ys[i]? = some y,
   fun i H v H' => ∃ t x y, v = .ref t ∧ H t = none ∧ H' = upd H t (.tup [x, y]) ∧ (∀ xs, SqL K H l1 xs → xs[i]? = some x) ∧ (∀ ys, SqL K H l2 ys → ys[i]? = some y),
   fun i H => ∃ xs ys, SqL K H l1 xs ∧ SqL K H l2 ys ∧ (xs.length ≤ i ∨ ys.length ≤ i)⟩

structure Zip2 (z TI TO i1 i2 : Addr) : Prop where
  TIz : TI ≠ z
  TOz : TO ≠ z
  i1z : i1 ≠ z
  i2z : i2 ≠ z
  TITO : TI ≠ TO
  TIi1 : TI ≠ i1
  TIi2 : TI ≠ i2
  TOi1 : TO ≠ i1
  TOi2 : TO ≠ i2
  i12 : i1 ≠ i2

theorem ne_cls {h : Heap} {a b : Addr} {o u : Obj} (e : h.get? a = some o) (e' : h.get? b = some u) (d : o.cls ≠ u.cls) : a ≠ b := by
  intro z; subst z; rw [e] at e'; exact d (congrArg Obj.cls (Option.some.inj e'))

theorem list_ne_of {n : String} (h : ("list" == n) = false) : Value.type "list" ≠ Value.type n := fun e => by cases e; revert h; decide
theorem zip2_new (n : Nat) : Zip2 (n + 4) (n + 2) (n + 3) n (n + 1) := by
  constructor <;> (show ((_ : Nat) ≠ _); omega)
theorem zip2_apart {h : Heap} {z TI TO i1 i2 l1 l2 : Addr} {its1 its2 : Array Value} {a b f0 : Value} {k1 k2 : Nat} (D : Zip2 z TI TO i1 i2) (hz : IsZip h z TI TO f0) (hTO : IsPair h TO a b) (h1 : h.IsListIter i1 l1 k1) (h2 : h.IsListIter i2 l2 k2)
    (p1 : h.IsList l1 its1) (p2 : h.IsList l2 its2) : ZipApart z TI TO i1 i2 l1 l2 := by
  obtain ⟨o1, e1, c1, _⟩ := h1
  obtain ⟨o2, e2, c2, _⟩ := h2
  obtain ⟨p1o, pe1, pc1, _⟩ := p1
  obtain ⟨p2o, pe2, pc2, _⟩ := p2
  exact ⟨D.TIz, D.TOz, D.i1z, D.i2z, D.TITO, D.TIi1, D.TIi2, D.TOi1, D.TOi2, D.i12,
    ne_cls pe1 hz (by rw [pc1]; exact list_ne_of (by decide)), ne_cls pe1 hTO (by rw [pc1]; exact list_ne_of (by decide)), ne_cls pe1 e1 (by rw [pc1, c1]; decide), ne_cls pe1 e2 (by rw [pc1, c2]; decide),
    ne_cls pe2 hz (by rw [pc2]; exact list_ne_of (by decide)), ne_cls pe2 hTO (by rw [pc2]; exact list_ne_of (by decide)), ne_cls pe2 e1 (by rw [pc2, c1]; decide), ne_cls pe2 e2 (by rw [pc2, c2]; decide)⟩

theorem turn_zip2 {P : Program} {w : World} {K : PySem.W.Frag} {es : List Expr} {tk : Nat} {tp : Pos} (z TI TO i1 i2 l1 l2 : Addr) (D : Zip2 z TI TO i1 i2) :
    Turn P w K (.Tuple es tk tp) (Itz2 K l1 l2) [z, TI, TO, i1, i2] z
      (fun i h => IsZip h z TI TO .none ∧ IsPair h TI (.ref i1) (.ref i2) ∧ (∃ a b, IsPair h TO a b) ∧ h.IsListIter i1 l1 i ∧ h.IsListIter i2 l2 i) where
  mem := by simp
  obj := fun i h st b hb => by
    obtain ⟨hz, hTI, ⟨a, c, hTO⟩, ⟨o1, e1, _, d1⟩, ⟨o2, e2, _, d2⟩⟩ := st
    simp only [List.mem_cons, List.not_mem_nil, or_false] at hb
    rcases hb with rfl | rfl | rfl | rfl | rfl
    · exact ⟨_, hz, fun v q => by cases q⟩
    · exact ⟨_, hTI, fun v q => by cases q⟩
    · exact ⟨_, hTO, fun v q => by cases q⟩
    · exact ⟨_, e1, fun v q => by rw [d1] at q; cases q⟩
    · exact ⟨_, e2, fun v q => by rw [d2] at q; cases q⟩
  keep := fun i h h' st k => by
    obtain ⟨hz, hTI, ⟨a, c, hTO⟩, h1, h2⟩ := st
    exact ⟨k z (by simp) _ hz, k TI (by simp) _ hTI, ⟨a, c, k TO (by simp) _ hTO⟩, h1.at fun o e => k i1 (by simp) o e, h2.at fun o e => k i2 (by simp) o e⟩
  item := by
    intro X hP hw hK hc i pins s σ H E I hf st hg
    subst hP hw hK
    obtain ⟨xs, ys, x, y, hq1, hq2, hx, hy⟩ := hg
    obtain ⟨its1, rv1, p1, _⟩ := I.list hq1
    obtain ⟨its2, rv2, p2, _⟩ := I.list hq2
    obtain ⟨u, hu, ru⟩ := rv1.get hx
    obtain ⟨v, hv, rw'⟩ := rv2.get hy
    obtain ⟨hz, hTI, ⟨a, b, hTO⟩, h1, h2⟩ := st
    have Z := zip2_apart D hz hTO h1 h2 p1.isList p2.isList
    refine wpAny_pyNext_zip_item Z hz hTI hTO h1 h2 p1.isList p2.isList (x := u) (y := v) (by simpa using hu) (by simpa using hv) fun h' a1 a2 a3 a4 a5 a6 hk => ?_
    refine ⟨_, rfl, ?_⟩
    refine wpAny_letOwnedTupleGo_zip a1 fun h'' hz'' hs'' => ?_
    have hzs : z < s.heap.objs.size := Heap.lt_size hz
    have kk : ∀ c o, c ∉ [z, TI, TO, i1, i2] → s.heap.get? c = some o → h''.get? c = some o := fun c o hc e => by
      simp only [List.mem_cons, List.not_mem_nil, or_false, not_or] at hc
      exact hs''.extBut _ _ hc.1 (hk c o hc.1 hc.2.2.1 hc.2.2.2.1 hc.2.2.2.2 e)
    have hT : h''.get? s.heap.objs.size = some { cls := .type "tuple", data := .seq #[u, v] } := hs''.extBut _ _ (Nat.ne_of_gt hzs) a5
    have I2 : Inv X pins σ (upd H s.heap.objs.size (.tup [x, y])) { s with heap := h'', toks := s.toks } :=
      I.turnedN (T := s.heap.objs.size) (o := .tup [x, y]) kk hf (Nat.le_refl _) ⟨by show 2 ≤ sizeLine; decide, [u, v], .cons ru (.cons rw' .nil), ⟨_, hT, rfl, _, rfl⟩⟩
    refine ⟨.ref s.heap.objs.size, _, I2, rfl, ⟨_, x, y, rfl, I.fresh, rfl, fun zs hzs' => by rw [I.list_inj hzs' hq1]; exact hx, fun zs hzs' => by rw [I.list_inj hzs' hq2]; exact hy⟩,
      ⟨hz'', hs''.extBut _ _ D.TIz (hk _ _ D.TIz D.TITO D.TIi1 D.TIi2 hTI), ⟨_, _, hs''.extBut _ _ D.TOz a2⟩, a3.extBut hs''.extBut D.i1z, a4.extBut hs''.extBut D.i2z⟩, fun c hc' => ?_⟩
    have hlt : c < s.heap.objs.size := by
      obtain ⟨o1, e1, _⟩ := h1
      obtain ⟨o2, e2, _⟩ := h2
      simp only [List.mem_cons, List.not_mem_nil, or_false] at hc'
      rcases hc' with rfl | rfl | rfl | rfl | rfl
      · exact hzs
      · exact Heap.lt_size hTI
      · exact Heap.lt_size hTO
      · exact Heap.lt_size e1
      · exact Heap.lt_size e2
    rw [upd_ne (Nat.ne_of_lt hlt)]
    exact (hf c hc').1
  done := by
    intro X hP hw hK hc i pins s σ H E I hf st hg
    subst hP hw hK
    obtain ⟨xs, ys, hq1, hq2, hl⟩ := hg
    obtain ⟨its1, rv1, p1, _⟩ := I.list hq1
    obtain ⟨its2, rv2, p2, _⟩ := I.list hq2
    obtain ⟨hz, hTI, ⟨a, b, hTO⟩, h1, h2⟩ := st
    have Z := zip2_apart D hz hTO h1 h2 p1.isList p2.isList
    have l1' := rv1.length
    have l2' := rv2.length
    refine wpAny_pyNext_zip_end (I.ok.hd hc) Z hz hTI hTO h1 h2 p1.isList p2.isList (hl.elim (fun q => .inl (by simp; omega)) fun q => .inr (by simp; omega)) fun h' hk => ⟨rfl, ?_⟩
    exact I.turnedL (t' := s.toks) (fun c o hc e => by
      simp only [List.mem_cons, List.not_mem_nil, or_false, not_or] at hc
      exact hk c o hc.1 hc.2.2.1 hc.2.2.2.1 hc.2.2.2.2 e) hf
  self := fun _ _ _ _ _ st h => wpAny_pyIter_zip st.1 h

section
variable {X : Cx}
noncomputable def iZip2 (K : PySem.W.Frag) (ta : TA) : TI := fun σ H R => ta σ H fun vs H1 => ∃ a b xs ys, vs = [.ref a, .ref b] ∧ SqL K H1 a xs ∧ SqL K H1 b ys ∧ R (Itz2 K a b) H1
theorem pi_zip2 {a b : Expr} {ta : TA} {p pos : Pos} {es : List Expr} {tk : Nat} {tp : Pos} (hg : Gl X "zip") (hm : X.mg "zip" = none) (ha : PA X [a, b] ta) (hs : starEach [a, b] X.env = [(false, eval a X.env), (false, eval b X.env)] := by rfl) (hs2 : starEach [b] X.env = [(false, eval b X.env)] := by rfl) :
    PI X (.Tuple es tk tp) (.Call (.Name "zip" p) [a, b] [] pos) (iZip2 X.K ta) := by
  intro pins s σ H R I h
  refine Call_ (ld_blt I hg hm boot_zip (PyProof.Rows.callWith_type1 (thn (ha pos pins s σ H _ I h) fun us s1 hpat => ?_) (by rw [hs, hs2]) (by rw [hs2]; rfl)))
  obtain ⟨vs, H1, I1, r1, q1⟩ := hpat
  obtain ⟨l1, l2, xs, ys, e, q1, q2, q⟩ := q1
  subst e
  cases r1 with
  | cons r rr =>
    cases rr with
    | cons r' rr =>
      cases rr
      cases r
      cases r'
      obtain ⟨its1, rv1, p1, _⟩ := I1.list q1
      obtain ⟨its2, rv2, p2, _⟩ := I1.list q2
      refine call_zip_2 p1.isList p2.isList fun h' hz hTI hTO hi1 hi2 hsz hk => ?_
      have I2 : Inv X pins σ H1 { s1 with heap := h', toks := s1.toks } := I1.kept hk
      refine wpAny_pyIter_zip (s := { s1 with heap := h' }) hz ?_
      refine ⟨_, [s1.heap.objs.size + 4, s1.heap.objs.size + 2, s1.heap.objs.size + 3, s1.heap.objs.size, s1.heap.objs.size + 1], _, _, H1, rfl, I2, turn_zip2 _ _ _ _ _ l1 l2 (zip2_new _),
        ⟨hz, hTI, ⟨_, _, hTO⟩, hi1, hi2⟩, fun b hb => ?_, q⟩
      have hb' : s1.heap.objs.size ≤ b := by
        simp only [List.mem_cons, List.not_mem_nil, or_false] at hb
        rcases hb with rfl | rfl | rfl | rfl | rfl
        · exact Nat.le_add_right _ 4
        · exact Nat.le_add_right _ 2
        · exact Nat.le_add_right _ 3
        · exact Nat.le_refl _
        · exact Nat.le_add_right _ 1
      exact I1.fpOk hb' (I1.hok.fresh hb')
end
end L2

set_option Elab.async false
set_option linter.all false
set_option maxRecDepth 100000
namespace L2
open PySem PySem.Spec PyProof.Rows

noncomputable abbrev IsTrip (h : Heap) (T : Addr) (a b c : Value) : Prop := h.get? T = some { cls := .type "tuple", data := .seq #[a, b, c] }
structure Zip3 (z TI TO i1 i2 i3 : Addr) : Prop where
  TIz : TI ≠ z
  TOz : TO ≠ z
  i1z : i1 ≠ z
  i2z : i2 ≠ z
  i3z : i3 ≠ z
  TITO : TI ≠ TO
  TIi1 : TI ≠ i1
  TIi2 : TI ≠ i2
  TIi3 : TI ≠ i3
  TOi1 : TO ≠ i1
  TOi2 : TO ≠ i2
  TOi3 : TO ≠ i3
  i12 : i1 ≠ i2
  i13 : i1 ≠ i3
  i23 : i2 ≠ i3
theorem zip3_new (n : Nat) : Zip3 (n + 5) (n + 3) (n + 4) n (n + 1) (n + 2) := by
  constructor <;> (show ((_ : Nat) ≠ _); omega)
structure Apart3 (z TO i1 i2 i3 l : Addr) : Prop where
  lz : l ≠ z
  lTO : l ≠ TO
  l1 : l ≠ i1
  l2 : l ≠ i2
  l3 : l ≠ i3
section
variable {prog : Program} {w : World} {A : Around} {E : Value → Shared → Prop} {s : Shared}
theorem updateSeq_trip {T : Addr} {a b c x : Value} {k : Nat} {Q : Unit → Shared → Prop} (hT : IsTrip s.heap T a b c)
    (h : ∀ h', h'.get? T = some { cls := .type "tuple", data := .seq ((#[a, b, c] : Array Value).setIfInBounds k x) } → Heap.SameBut T s.heap h' → Q () { s with heap := h' }) :
    wpAny (model prog w) A (updateSeq T (·.setIfInBounds k x)) Q E s := by
  refine wpAny_updateSeq hT rfl (h _ ?_ (Heap.SameBut.update ..))
  rw [Heap.get?_update_self _ hT rfl]
  simp [Obj.mapSeq]

theorem zip3_next_item {z TI TO i1 i2 i3 l1 l2 l3 : Addr} {k1 k2 k3 : Nat} {xs ys zs : Array Value} {x y v a b c : Value} {Q : Value → Shared → Prop} (D : Zip3 z TI TO i1 i2 i3) (A1 : Apart3 z TO i1 i2 i3 l1) (A2 : Apart3 z TO i1 i2 i3 l2) (A3 : Apart3 z TO i1 i2 i3 l3)
    (hz : IsZip s.heap z TI TO .none) (hTI : IsTrip s.heap TI (.ref i1) (.ref i2) (.ref i3)) (hTO : IsTrip s.heap TO a b c)
    (h1 : s.heap.IsListIter i1 l1 k1) (h2 : s.heap.IsListIter i2 l2 k2) (h3 : s.heap.IsListIter i3 l3 k3) (hl1 : s.heap.IsList l1 xs) (hl2 : s.heap.IsList l2 ys) (hl3 : s.heap.IsList l3 zs) (hx : xs[k1]? = some x) (hy : ys[k2]? = some y) (hv : zs[k3]? = some v)
    (hQ : ∀ h', IsZip h' z TI TO (rawInt s.heap.objs.size) → IsTrip h' TO x y v → h'.IsListIter i1 l1 (k1 + 1) → h'.IsListIter i2 l2 (k2 + 1) → h'.IsListIter i3 l3 (k3 + 1) → IsTrip h' s.heap.objs.size x y v → h'.objs.size = s.heap.objs.size + 1 →
      (∀ c o, c ≠ z → c ≠ TO → c ≠ i1 → c ≠ i2 → c ≠ i3 → s.heap.get? c = some o → h'.get? c = some o) → Q (.ref s.heap.objs.size) { s with heap := h' }) :
    wpAny (model prog w) A (Builtin.«zip.__next__» ⟨[.ref z], []⟩) (fun fin s' => ∃ v, fin = .done (.ret v) ∧ Q v s') E s := by
  show wpAny _ _ (field (.ref z) 2 >>= _) _ _ _
  refine wpAny_bind (wpAny_field hz rfl (x := .bool false) rfl ?_)
  show wpAny _ _ (field (.ref z) 3 >>= _) _ _ _
  refine wpAny_bind (wpAny_field hz rfl (x := .ref TI) rfl ?_)
  refine wpAny_bind (wpAny_seqItems hTI rfl ?_)
  show wpAny _ _ (Builtin.SmallTypes.ownedTupleIsFree (.ref z) >>= _) _ _ _
  refine wpAny_bind ?_
  unfold Builtin.SmallTypes.ownedTupleIsFree
  refine wpAny_bind (wpAny_field hz rfl (x := .none) rfl (wpAny_pure ?_))
  simp only [if_true]
  refine wpAny_bind (wpAny_rule ?_)
  refine wpAny_bind (wpAny_field hz rfl (x := .ref TO) rfl ?_)
  refine wpAny_bind (wpAny_setField_rec hz (by simp) fun h₁ hz₁ hs₁ => ?_)
  replace hz₁ : IsZip h₁ z TI TO .ellipsis := hz₁
  refine wpAny_bind ?_
  simp only [List.zipIdx_cons, List.zipIdx_nil, List.forIn_cons, List.forIn_nil]
  refine wpAny_bind (wpAny_bind (wpAny_onRaise ?_))
  show wpAny _ _ (Builtin.SmallTypes.nextOf (.ref i1) >>= _) _ _ _
  refine wpAny_bind (wpAny_nextOf_list_item (h1.extBut hs₁.extBut D.i1z) (hl1.extBut hs₁.extBut A1.lz) hx fun h₂ h1₂ hs₂ => wpAny_pure ?_)
  have hTO₂ : IsTrip h₂ TO a b c := hs₂.extBut _ _ D.TOi1 (hs₁.extBut _ _ D.TOz hTO)
  refine wpAny_bind (wpAny_seqItems hTO₂ rfl ?_)
  refine wpAny_bind (updateSeq_trip hTO₂ fun h₃ hTO₃ hs₃ => ?_)
  replace hTO₃ : IsTrip h₃ TO x b c := hTO₃
  refine wpAny_bind (wpAny_letGo (wpAny_pure ?_))
  refine wpAny_bind (wpAny_bind (wpAny_onRaise ?_))
  show wpAny _ _ (Builtin.SmallTypes.nextOf (.ref i2) >>= _) _ _ _
  refine wpAny_bind (wpAny_nextOf_list_item (((h2.extBut hs₁.extBut D.i2z).extBut hs₂.extBut D.i12.symm).extBut hs₃.extBut D.TOi2.symm)
    (((hl2.extBut hs₁.extBut A2.lz).extBut hs₂.extBut A2.l1).extBut hs₃.extBut A2.lTO) hy fun h₄ h2₄ hs₄ => wpAny_pure ?_)
  have hTO₄ : IsTrip h₄ TO x b c := hs₄.extBut _ _ D.TOi2 hTO₃
  refine wpAny_bind (wpAny_seqItems hTO₄ rfl ?_)
  refine wpAny_bind (updateSeq_trip hTO₄ fun h₅ hTO₅ hs₅ => ?_)
  replace hTO₅ : IsTrip h₅ TO x y c := hTO₅
  refine wpAny_bind (wpAny_letGo (wpAny_pure ?_))
  refine wpAny_bind (wpAny_bind (wpAny_onRaise ?_))
  show wpAny _ _ (Builtin.SmallTypes.nextOf (.ref i3) >>= _) _ _ _
  refine wpAny_bind (wpAny_nextOf_list_item (((((h3.extBut hs₁.extBut D.i3z).extBut hs₂.extBut D.i13.symm).extBut hs₃.extBut D.TOi3.symm).extBut hs₄.extBut D.i23.symm).extBut hs₅.extBut D.TOi3.symm)
    (((((hl3.extBut hs₁.extBut A3.lz).extBut hs₂.extBut A3.l1).extBut hs₃.extBut A3.lTO).extBut hs₄.extBut A3.l2).extBut hs₅.extBut A3.lTO) hv fun h₆ h3₆ hs₆ => wpAny_pure ?_)
  have hTO₆ : IsTrip h₆ TO x y c := hs₆.extBut _ _ D.TOi3 hTO₅
  refine wpAny_bind (wpAny_seqItems hTO₆ rfl ?_)
  refine wpAny_bind (updateSeq_trip hTO₆ fun h₇ hTO₇ hs₇ => ?_)
  replace hTO₇ : IsTrip h₇ TO x y v := hTO₇
  refine wpAny_bind (wpAny_letGo (wpAny_pure (wpAny_pure ?_)))
  refine wpAny_bind (wpAny_seqItems hTO₇ rfl ?_)
  refine wpAny_bind (wpAny_newTuple ?_)
  have hsz : h₇.objs.size = s.heap.objs.size := by rw [hs₇.1, hs₆.1, hs₅.1, hs₄.1, hs₃.1, hs₂.1, hs₁.1]
  have hz₇ : IsZip h₇ z TI TO .ellipsis := hs₇.extBut _ _ D.TOz.symm (hs₆.extBut _ _ D.i3z.symm (hs₅.extBut _ _ D.TOz.symm (hs₄.extBut _ _ D.i2z.symm (hs₃.extBut _ _ D.TOz.symm (hs₂.extBut _ _ D.i1z.symm hz₁)))))
  have hk₇ : ∀ c o, c ≠ z → c ≠ TO → c ≠ i1 → c ≠ i2 → c ≠ i3 → s.heap.get? c = some o → h₇.get? c = some o := fun c o c1 c2 c3 c4 c5 e =>
    hs₇.extBut _ _ c2 (hs₆.extBut _ _ c5 (hs₅.extBut _ _ c2 (hs₄.extBut _ _ c4 (hs₃.extBut _ _ c2 (hs₂.extBut _ _ c3 (hs₁.extBut _ _ c1 e))))))
  have h1₇ : h₇.IsListIter i1 l1 (k1 + 1) := ((((h1₂.extBut hs₃.extBut D.TOi1.symm).extBut hs₄.extBut D.i12).extBut hs₅.extBut D.TOi1.symm).extBut hs₆.extBut D.i13).extBut hs₇.extBut D.TOi1.symm
  have h2₇ : h₇.IsListIter i2 l2 (k2 + 1) := ((h2₄.extBut hs₅.extBut D.TOi2.symm).extBut hs₆.extBut D.i23).extBut hs₇.extBut D.TOi2.symm
  have h3₇ : h₇.IsListIter i3 l3 (k3 + 1) := h3₆.extBut hs₇.extBut D.TOi3.symm
  have hzlt : z < h₇.objs.size := Heap.lt_size hz₇
  show wpAny _ _ (Builtin.SmallTypes.ownedTupleHandOut (.ref z) (.ref h₇.objs.size) >>= _) _ _ _
  refine wpAny_bind ?_
  unfold Builtin.SmallTypes.ownedTupleHandOut
  have hz₈ : IsZip (h₇.push { cls := .type "tuple", data := .seq #[x, y, v] }) z TI TO .ellipsis := Heap.get?_push_of_some _ hz₇
  refine wpAny_bind (wpAny_setField_rec hz₈ (by simp) fun h₉ hz₉ hs₉ => ?_)
  replace hz₉ : IsZip h₉ z TI TO (rawInt h₇.objs.size) := hz₉
  refine wpAny_setField_rec hz₉ (by simp) fun h₀ hz₀ hs₀ => ?_
  replace hz₀ : IsZip h₀ z TI TO (rawInt h₇.objs.size) := hz₀
  have up : ∀ c o, c ≠ z → h₇.get? c = some o → h₀.get? c = some o := fun c o c1 e => hs₀.extBut _ _ c1 (hs₉.extBut _ _ c1 (Heap.get?_push_of_some _ e))
  have hT₀ : IsTrip h₀ h₇.objs.size x y v := hs₀.extBut _ _ (Nat.ne_of_gt hzlt) (hs₉.extBut _ _ (Nat.ne_of_gt hzlt) (Heap.get?_push_size _ rfl))
  have hz0 : h₀.objs.size = h₇.objs.size + 1 := by rw [hs₀.1, hs₉.1, Heap.size_push]
  rw [hsz] at hz₀ hT₀ hz0
  refine wpAny_pure ⟨_, rfl, ?_⟩
  show Q (.ref h₇.objs.size) _
  rw [hsz]
  exact hQ h₀ hz₀ (up _ _ D.TOz hTO₇) (h1₇.at fun o e => up _ o D.i1z e) (h2₇.at fun o e => up _ o D.i2z e) (h3₇.at fun o e => up _ o D.i3z e) hT₀ hz0 fun c o c1 c2 c3 c4 c5 e => up c o c1 (hk₇ c o c1 c2 c3 c4 c5 e)

theorem zip3_next_end {z TI TO i1 i2 i3 l1 l2 l3 : Addr} {k1 k2 k3 : Nat} {xs ys zs : Array Value} {a b c : Value} {Q : Fin → Shared → Prop} (hh : A.handled = none) (D : Zip3 z TI TO i1 i2 i3) (A1 : Apart3 z TO i1 i2 i3 l1) (A2 : Apart3 z TO i1 i2 i3 l2) (A3 : Apart3 z TO i1 i2 i3 l3)
    (hz : IsZip s.heap z TI TO .none) (hTI : IsTrip s.heap TI (.ref i1) (.ref i2) (.ref i3)) (hTO : IsTrip s.heap TO a b c)
    (h1 : s.heap.IsListIter i1 l1 k1) (h2 : s.heap.IsListIter i2 l2 k2) (h3 : s.heap.IsListIter i3 l3 k3) (hl1 : s.heap.IsList l1 xs) (hl2 : s.heap.IsList l2 ys) (hl3 : s.heap.IsList l3 zs) (hend : xs[k1]? = none ∨ ys[k2]? = none ∨ zs[k3]? = none)
    (hE : ∀ h' e, (∀ c o, c ≠ z → c ≠ TO → c ≠ i1 → c ≠ i2 → c ≠ i3 → s.heap.get? c = some o → h'.get? c = some o) → (∃ o, h'.get? e = some o ∧ o.cls = .type "StopIteration") → E (.ref e) { s with heap := h' }) :
    wpAny (model prog w) A (Builtin.«zip.__next__» ⟨[.ref z], []⟩) Q E s := by
  show wpAny _ _ (field (.ref z) 2 >>= _) _ _ _
  refine wpAny_bind (wpAny_field hz rfl (x := .bool false) rfl ?_)
  show wpAny _ _ (field (.ref z) 3 >>= _) _ _ _
  refine wpAny_bind (wpAny_field hz rfl (x := .ref TI) rfl ?_)
  refine wpAny_bind (wpAny_seqItems hTI rfl ?_)
  show wpAny _ _ (Builtin.SmallTypes.ownedTupleIsFree (.ref z) >>= _) _ _ _
  refine wpAny_bind ?_
  unfold Builtin.SmallTypes.ownedTupleIsFree
  refine wpAny_bind (wpAny_field hz rfl (x := .none) rfl (wpAny_pure ?_))
  simp only [if_true]
  refine wpAny_bind (wpAny_rule ?_)
  refine wpAny_bind (wpAny_field hz rfl (x := .ref TO) rfl ?_)
  refine wpAny_bind (wpAny_setField_rec hz (by simp) fun h₁ hz₁ hs₁ => ?_)
  replace hz₁ : IsZip h₁ z TI TO .ellipsis := hz₁
  refine wpAny_bind ?_
  simp only [List.zipIdx_cons, List.zipIdx_nil, List.forIn_cons, List.forIn_nil]
  refine wpAny_bind (wpAny_bind (wpAny_onRaise ?_))
  show wpAny _ _ (Builtin.SmallTypes.nextOf (.ref i1) >>= _) _ _ _
  cases hx : xs[k1]? with
  | none =>
    refine wpAny_bind (wpAny_nextOf_list_end hh (h1.extBut hs₁.extBut D.i1z) (hl1.extBut hs₁.extBut A1.lz) hx fun h₂ e hs₂ he => ?_)
    obtain ⟨oe, hoe, hce⟩ := he
    have hz₂ : IsZip h₂ z TI TO .ellipsis := hs₂ _ _ D.i1z.symm hz₁
    have hez : e ≠ z := fun x => by subst x; rw [hz₂] at hoe; cases hoe; simp at hce
    refine wpAny_setField_rec hz₂ (by simp) fun h₃ _ hs₃ => hE h₃ e (fun c o c1 _ c3 _ _ x => hs₃.extBut _ _ c1 (hs₂ _ _ c3 (hs₁.extBut _ _ c1 x))) ⟨oe, hs₃.extBut _ _ hez hoe, hce⟩
  | some x =>
    refine wpAny_bind (wpAny_nextOf_list_item (h1.extBut hs₁.extBut D.i1z) (hl1.extBut hs₁.extBut A1.lz) hx fun h₂ h1₂ hs₂ => wpAny_pure ?_)
    have hTO₂ : IsTrip h₂ TO a b c := hs₂.extBut _ _ D.TOi1 (hs₁.extBut _ _ D.TOz hTO)
    refine wpAny_bind (wpAny_seqItems hTO₂ rfl ?_)
    refine wpAny_bind (updateSeq_trip hTO₂ fun h₃ hTO₃ hs₃ => ?_)
    replace hTO₃ : IsTrip h₃ TO x b c := hTO₃
    refine wpAny_bind (wpAny_letGo (wpAny_pure ?_))
    refine wpAny_bind (wpAny_bind (wpAny_onRaise ?_))
    show wpAny _ _ (Builtin.SmallTypes.nextOf (.ref i2) >>= _) _ _ _
    cases hy : ys[k2]? with
    | none =>
      refine wpAny_bind (wpAny_nextOf_list_end hh (((h2.extBut hs₁.extBut D.i2z).extBut hs₂.extBut D.i12.symm).extBut hs₃.extBut D.TOi2.symm)
        (((hl2.extBut hs₁.extBut A2.lz).extBut hs₂.extBut A2.l1).extBut hs₃.extBut A2.lTO) hy fun h₄ e hs₄ he => ?_)
      obtain ⟨oe, hoe, hce⟩ := he
      have hz₄ : IsZip h₄ z TI TO .ellipsis := hs₄ _ _ D.i2z.symm (hs₃.extBut _ _ D.TOz.symm (hs₂.extBut _ _ D.i1z.symm hz₁))
      have hez : e ≠ z := fun x => by subst x; rw [hz₄] at hoe; cases hoe; simp at hce
      refine wpAny_setField_rec hz₄ (by simp) fun h₅ _ hs₅ => hE h₅ e (fun c o c1 c2 c3 c4 _ x => hs₅.extBut _ _ c1 (hs₄ _ _ c4 (hs₃.extBut _ _ c2 (hs₂.extBut _ _ c3 (hs₁.extBut _ _ c1 x))))) ⟨oe, hs₅.extBut _ _ hez hoe, hce⟩
    | some y =>
      have hv : zs[k3]? = none := by
        rcases hend with h | h | h
        · rw [hx] at h; cases h
        · rw [hy] at h; cases h
        · exact h
      refine wpAny_bind (wpAny_nextOf_list_item (((h2.extBut hs₁.extBut D.i2z).extBut hs₂.extBut D.i12.symm).extBut hs₃.extBut D.TOi2.symm)
        (((hl2.extBut hs₁.extBut A2.lz).extBut hs₂.extBut A2.l1).extBut hs₃.extBut A2.lTO) hy fun h₄ h2₄ hs₄ => wpAny_pure ?_)
      have hTO₄ : IsTrip h₄ TO x b c := hs₄.extBut _ _ D.TOi2 hTO₃
      refine wpAny_bind (wpAny_seqItems hTO₄ rfl ?_)
      refine wpAny_bind (updateSeq_trip hTO₄ fun h₅ hTO₅ hs₅ => ?_)
      replace hTO₅ : IsTrip h₅ TO x y c := hTO₅
      refine wpAny_bind (wpAny_letGo (wpAny_pure ?_))
      refine wpAny_bind (wpAny_bind (wpAny_onRaise ?_))
      show wpAny _ _ (Builtin.SmallTypes.nextOf (.ref i3) >>= _) _ _ _
      refine wpAny_bind (wpAny_nextOf_list_end hh (((((h3.extBut hs₁.extBut D.i3z).extBut hs₂.extBut D.i13.symm).extBut hs₃.extBut D.TOi3.symm).extBut hs₄.extBut D.i23.symm).extBut hs₅.extBut D.TOi3.symm)
        (((((hl3.extBut hs₁.extBut A3.lz).extBut hs₂.extBut A3.l1).extBut hs₃.extBut A3.lTO).extBut hs₄.extBut A3.l2).extBut hs₅.extBut A3.lTO) hv fun h₆ e hs₆ he => ?_)
      obtain ⟨oe, hoe, hce⟩ := he
      have hz₆ : IsZip h₆ z TI TO .ellipsis := hs₆ _ _ D.i3z.symm (hs₅.extBut _ _ D.TOz.symm (hs₄.extBut _ _ D.i2z.symm (hs₃.extBut _ _ D.TOz.symm (hs₂.extBut _ _ D.i1z.symm hz₁))))
      have hez : e ≠ z := fun x => by subst x; rw [hz₆] at hoe; cases hoe; simp at hce
      refine wpAny_setField_rec hz₆ (by simp) fun h₇ _ hs₇ => hE h₇ e (fun c o c1 c2 c3 c4 c5 x => hs₇.extBut _ _ c1 (hs₆ _ _ c5 (hs₅.extBut _ _ c2 (hs₄.extBut _ _ c4 (hs₃.extBut _ _ c2 (hs₂.extBut _ _ c3 (hs₁.extBut _ _ c1 x))))))) ⟨oe, hs₇.extBut _ _ hez hoe, hce⟩

theorem pyNext_zip3_item {z TI TO i1 i2 i3 l1 l2 l3 : Addr} {k1 k2 k3 : Nat} {xs ys zs : Array Value} {x y v a b c : Value} {Q : Option Value → Shared → Prop} (D : Zip3 z TI TO i1 i2 i3) (A1 : Apart3 z TO i1 i2 i3 l1) (A2 : Apart3 z TO i1 i2 i3 l2) (A3 : Apart3 z TO i1 i2 i3 l3)
    (hz : IsZip s.heap z TI TO .none) (hTI : IsTrip s.heap TI (.ref i1) (.ref i2) (.ref i3)) (hTO : IsTrip s.heap TO a b c)
    (h1 : s.heap.IsListIter i1 l1 k1) (h2 : s.heap.IsListIter i2 l2 k2) (h3 : s.heap.IsListIter i3 l3 k3) (hl1 : s.heap.IsList l1 xs) (hl2 : s.heap.IsList l2 ys) (hl3 : s.heap.IsList l3 zs) (hx : xs[k1]? = some x) (hy : ys[k2]? = some y) (hv : zs[k3]? = some v)
    (hQ : ∀ h', IsZip h' z TI TO (rawInt s.heap.objs.size) → IsTrip h' TO x y v → h'.IsListIter i1 l1 (k1 + 1) → h'.IsListIter i2 l2 (k2 + 1) → h'.IsListIter i3 l3 (k3 + 1) → IsTrip h' s.heap.objs.size x y v → h'.objs.size = s.heap.objs.size + 1 →
      (∀ c o, c ≠ z → c ≠ TO → c ≠ i1 → c ≠ i2 → c ≠ i3 → s.heap.get? c = some o → h'.get? c = some o) → Q (some (.ref s.heap.objs.size)) { s with heap := h' }) :
    wpAny (model prog w) A (pyNext (.ref z)) Q E s := by
  have hT : s.TypeIs (.ref z) "zip" := ⟨_, hz, rfl⟩
  unfold pyNext
  exact wpAny_bind (wpAny_attempt (wpAny_callSpecial?_slot (name := Str.ofString "__next__") hT F.slot_zip_next
    (wpAny_call_entry F.slot_zip_next hT F.entry_zip_next
      (zip3_next_item D A1 A2 A3 hz hTI hTO h1 h2 h3 hl1 hl2 hl3 hx hy hv fun h' a1 a2 a3 a4 a5 a6 a7 a8 => wpAny_pure (hQ h' a1 a2 a3 a4 a5 a6 a7 a8)) (F.args_zip_next_1 _))))
theorem pyNext_zip3_end {z TI TO i1 i2 i3 l1 l2 l3 : Addr} {k1 k2 k3 : Nat} {xs ys zs : Array Value} {a b c : Value} {Q : Option Value → Shared → Prop} (hh : A.handled = none) (D : Zip3 z TI TO i1 i2 i3) (A1 : Apart3 z TO i1 i2 i3 l1) (A2 : Apart3 z TO i1 i2 i3 l2) (A3 : Apart3 z TO i1 i2 i3 l3)
    (hz : IsZip s.heap z TI TO .none) (hTI : IsTrip s.heap TI (.ref i1) (.ref i2) (.ref i3)) (hTO : IsTrip s.heap TO a b c)
    (h1 : s.heap.IsListIter i1 l1 k1) (h2 : s.heap.IsListIter i2 l2 k2) (h3 : s.heap.IsListIter i3 l3 k3) (hl1 : s.heap.IsList l1 xs) (hl2 : s.heap.IsList l2 ys) (hl3 : s.heap.IsList l3 zs) (hend : xs[k1]? = none ∨ ys[k2]? = none ∨ zs[k3]? = none)
    (hQ : ∀ h', (∀ c o, c ≠ z → c ≠ TO → c ≠ i1 → c ≠ i2 → c ≠ i3 → s.heap.get? c = some o → h'.get? c = some o) → Q none { s with heap := h' }) : wpAny (model prog w) A (pyNext (.ref z)) Q E s := by
  have hT : s.TypeIs (.ref z) "zip" := ⟨_, hz, rfl⟩
  unfold pyNext
  refine wpAny_bind (wpAny_attempt (wpAny_callSpecial?_slot (name := Str.ofString "__next__") hT F.slot_zip_next
    (wpAny_call_entry F.slot_zip_next hT F.entry_zip_next (zip3_next_end hh D A1 A2 A3 hz hTI hTO h1 h2 h3 hl1 hl2 hl3 hend fun h' e hk he => ?_) (F.args_zip_next_1 _))))
  obtain ⟨o, ho, hc⟩ := he
  refine wpAny_bind (wpAny_isInstance (T := "StopIteration") (b := true) ⟨o, ho, hc⟩ isSubtype_stop ?_)
  exact wpAny_pure (hQ _ hk)

noncomputable abbrev z3H1 (h : Heap) (l1 : Addr) : Heap := h.push { cls := .type "list_iterator", data := .fields #[.ref l1, .int 0 0] }
noncomputable abbrev z3H2 (h : Heap) (l1 l2 : Addr) : Heap := (z3H1 h l1).push { cls := .type "list_iterator", data := .fields #[.ref l2, .int 0 0] }
noncomputable abbrev z3H3 (h : Heap) (l1 l2 l3 : Addr) : Heap := (z3H2 h l1 l2).push { cls := .type "list_iterator", data := .fields #[.ref l3, .int 0 0] }
noncomputable abbrev z3H4 (h : Heap) (l1 l2 l3 : Addr) : Heap := (z3H3 h l1 l2 l3).push { cls := .type "tuple", data := .seq #[.ref h.objs.size, .ref (z3H1 h l1).objs.size, .ref (z3H2 h l1 l2).objs.size] }
noncomputable abbrev z3H5 (h : Heap) (l1 l2 l3 : Addr) : Heap := (z3H4 h l1 l2 l3).push { cls := .type "tuple", data := .seq #[.none, .none, .none] }
noncomputable abbrev z3H6 (h : Heap) (l1 l2 l3 : Addr) : Heap := (z3H5 h l1 l2 l3).push { cls := .type "zip", data := .fields #[.none, .bool false, .bool false, .ref (z3H3 h l1 l2 l3).objs.size, .ref (z3H4 h l1 l2 l3).objs.size] }
theorem typeCall_zip_3 (a b c : Value) : checkTypeCall "zip" ⟨[a, b, c], []⟩ = pure () := by kernel_rfl
theorem newCall_zip_3 (a b c : Value) : checkBuiltinCall "zip.__new__" ⟨[.type "zip", a, b, c], []⟩ = pure () := by kernel_rfl
theorem args_init_4 (a b c d : Value) : argsOk "object.__init__" ⟨[a, b, c, d], []⟩ := by
  unfold argsOk; rw [signature?_of (id := "object.__init__") (n := ['_', '_', 't', 'i', 'n', 'i', '_', '_']) (o := ['t', 'c', 'e', 'j', 'b', 'o']) (by kernel_rfl) F.owner_object]; kernel_rfl
set_option maxHeartbeats 8000000 in
theorem meets_zip3_new (l1 l2 l3 : Addr) (xs ys zs : Array Value) :
    Meets (Builtin.«zip.__new__» ⟨[.type "zip", .ref l1, .ref l2, .ref l3], []⟩) (fun _ R s => s.heap.IsList l1 xs ∧ s.heap.IsList l2 ys ∧ s.heap.IsList l3 zs ∧
      R (.ok (.ret (.ref (z3H5 s.heap l1 l2 l3).objs.size))) { s with heap := z3H6 s.heap l1 l2 l3 }) :=
  .of_wp fun prog w A R s h => by
    obtain ⟨hp, g, d, tk, os⟩ := s; obtain ⟨hl1, hl2, hl3, h⟩ := h
    have hsub := sub_zip
    have hL1 : Heap.IsList (Shared.heap ⟨hp, g, d, tk, os⟩) l1 xs := hl1
    have hL2 : Heap.IsList (Shared.heap ⟨hp.push { cls := .type "list_iterator", data := .fields #[.ref l1, .int 0 0] }, g, d, tk, os⟩) l2 ys := Heap.IsList.push hl2 _
    have hL3 : Heap.IsList (Shared.heap ⟨(hp.push { cls := .type "list_iterator", data := .fields #[.ref l1, .int 0 0] }).push { cls := .type "list_iterator", data := .fields #[.ref l2, .int 0 0] }, g, d, tk, os⟩) l3 zs := Heap.IsList.push (Heap.IsList.push hl3 _) _
    wp_walk using wpAny_pyIter_list hL1, wpAny_pyIter_list hL2, wpAny_pyIter_list hL3
    exact ⟨_, rfl, h⟩
theorem call_zip_3 {l1 l2 l3 : Addr} {xs ys zs : Array Value} {Q : Value → Shared → Prop} (hl1 : s.heap.IsList l1 xs) (hl2 : s.heap.IsList l2 ys) (hl3 : s.heap.IsList l3 zs)
    (h : ∀ h', IsZip h' (s.heap.objs.size + 5) (s.heap.objs.size + 3) (s.heap.objs.size + 4) .none → IsTrip h' (s.heap.objs.size + 3) (.ref s.heap.objs.size) (.ref (s.heap.objs.size + 1)) (.ref (s.heap.objs.size + 2)) →
      IsTrip h' (s.heap.objs.size + 4) .none .none .none → h'.IsListIter s.heap.objs.size l1 0 → h'.IsListIter (s.heap.objs.size + 1) l2 0 → h'.IsListIter (s.heap.objs.size + 2) l3 0 →
      (∀ c o, s.heap.get? c = some o → h'.get? c = some o) → Q (.ref (s.heap.objs.size + 5)) { s with heap := h' }) :
    wpAny (model prog w) A (call (.type "zip") [.ref l1, .ref l2, .ref l3]) Q E s := by
  refine callType_new F.called_zip (by decide) (typeCall_zip_3 _ _ _) (newCall_zip_3 _ _ _) (fun obj => args_init_4 obj _ _ _) F.entry_zip_new
    (meets_zip3_new l1 l2 l3 xs ys zs) ⟨hl1, hl2, hl3, ?_⟩
  have z1 : (z3H1 s.heap l1).objs.size = s.heap.objs.size + 1 := Heap.size_push ..
  have z2 : (z3H2 s.heap l1 l2).objs.size = s.heap.objs.size + 2 := by rw [Heap.size_push, z1]
  have z3 : (z3H3 s.heap l1 l2 l3).objs.size = s.heap.objs.size + 3 := by rw [Heap.size_push, z2]
  have z4 : (z3H4 s.heap l1 l2 l3).objs.size = s.heap.objs.size + 4 := by rw [Heap.size_push, z3]
  have z5 : (z3H5 s.heap l1 l2 l3).objs.size = s.heap.objs.size + 5 := by rw [Heap.size_push, z4]
  have g6 : (z3H6 s.heap l1 l2 l3).get? (z3H5 s.heap l1 l2 l3).objs.size = some _ := Heap.get?_push_size _ rfl
  have g5 : (z3H6 s.heap l1 l2 l3).get? (z3H4 s.heap l1 l2 l3).objs.size = some _ := Heap.get?_push_of_some _ (Heap.get?_push_size _ rfl)
  have g4 : (z3H6 s.heap l1 l2 l3).get? (z3H3 s.heap l1 l2 l3).objs.size = some _ := Heap.get?_push_of_some _ (Heap.get?_push_of_some _ (Heap.get?_push_size _ rfl))
  have g3 : (z3H6 s.heap l1 l2 l3).get? (z3H2 s.heap l1 l2).objs.size = some _ := Heap.get?_push_of_some _ (Heap.get?_push_of_some _ (Heap.get?_push_of_some _ (Heap.get?_push_size _ rfl)))
  have g2 : (z3H6 s.heap l1 l2 l3).get? (z3H1 s.heap l1).objs.size = some _ := Heap.get?_push_of_some _ (Heap.get?_push_of_some _ (Heap.get?_push_of_some _ (Heap.get?_push_of_some _ (Heap.get?_push_size _ rfl))))
  have g1 : (z3H6 s.heap l1 l2 l3).get? s.heap.objs.size = some _ := Heap.get?_push_of_some _ (Heap.get?_push_of_some _ (Heap.get?_push_of_some _ (Heap.get?_push_of_some _ (Heap.get?_push_of_some _ (Heap.get?_push_size _ rfl)))))
  show _ ∧ _
  rw [z3, z4, z5] at g6
  rw [z4] at g5
  rw [z1, z2, z3] at g4
  rw [z2] at g3
  rw [z1] at g2
  rw [z5]
  exact ⟨⟨_, g6, rfl⟩, h _ g6 g4 g5 ⟨_, g1, rfl, rfl⟩ ⟨_, g2, rfl, rfl⟩ ⟨_, g3, rfl, rfl⟩ fun c o x =>
    Heap.get?_push_of_some _ (Heap.get?_push_of_some _ (Heap.get?_push_of_some _ (Heap.get?_push_of_some _ (Heap.get?_push_of_some _ (Heap.get?_push_of_some _ x)))))⟩
end

noncomputable def Itz3 (K : PySem.W.Frag) (l1 l2 l3 : Addr) : It :=
  ⟨fun i H => ∃ xs ys zs x y z, SqL K H l1 xs ∧ SqL K H l2 ys ∧ SqL K H l3 zs ∧ xs[i]? = some x ∧ ys[i]? = some y ∧ zs[i]? = some z,
   fun i H v H' => ∃ t x y z, v = .ref t ∧ H t = none ∧ H' = upd H t (.tup [x, y, z]) ∧ (∀ xs, SqL K H l1 xs → xs[i]? = some x) ∧ (∀ ys, SqL K H l2 ys → ys[i]? = some y) ∧ (∀ zs, SqL K H l3 zs → zs[i]? = some z),
   fun i H => ∃ xs ys zs, SqL K H l1 xs ∧ SqL K H l2 ys ∧ SqL K H l3 zs ∧ (xs.length ≤ i ∨ ys.length ≤ i ∨ zs.length ≤ i)⟩
theorem apart3_of {h : Heap} {z TI TO i1 i2 i3 l m1 m2 m3 : Addr} {its : Array Value} {a b c f0 : Value} {k1 k2 k3 : Nat} (hz : IsZip h z TI TO f0) (hTO : IsTrip h TO a b c) (h1 : h.IsListIter i1 m1 k1) (h2 : h.IsListIter i2 m2 k2) (h3 : h.IsListIter i3 m3 k3)
    (p : h.IsList l its) : Apart3 z TO i1 i2 i3 l := by
  obtain ⟨o1, e1, c1, _⟩ := h1
  obtain ⟨o2, e2, c2, _⟩ := h2
  obtain ⟨o3, e3, c3, _⟩ := h3
  obtain ⟨po, pe, pc, _⟩ := p
  exact ⟨ne_cls pe hz (by rw [pc]; exact list_ne_of (by decide)), ne_cls pe hTO (by rw [pc]; exact list_ne_of (by decide)), ne_cls pe e1 (by rw [pc, c1]; exact list_ne_of (by decide)), ne_cls pe e2 (by rw [pc, c2]; exact list_ne_of (by decide)), ne_cls pe e3 (by rw [pc, c3]; exact list_ne_of (by decide))⟩

theorem turn_zip3 {P : Program} {w : World} {K : PySem.W.Frag} {es : List Expr} {tk : Nat} {tp : Pos} (z TI TO i1 i2 i3 l1 l2 l3 : Addr) (D : Zip3 z TI TO i1 i2 i3) :
    Turn P w K (.Tuple es tk tp) (Itz3 K l1 l2 l3) [z, TI, TO, i1, i2, i3] z
      (fun i h => IsZip h z TI TO .none ∧ IsTrip h TI (.ref i1) (.ref i2) (.ref i3) ∧ (∃ a b c, IsTrip h TO a b c) ∧ h.IsListIter i1 l1 i ∧ h.IsListIter i2 l2 i ∧ h.IsListIter i3 l3 i) where
  mem := by simp
  obj := fun i h st b hb => by
    obtain ⟨hz, hTI, ⟨a, c, d, hTO⟩, ⟨o1, e1, _, d1⟩, ⟨o2, e2, _, d2⟩, ⟨o3, e3, _, d3⟩⟩ := st
    simp only [List.mem_cons, List.not_mem_nil, or_false] at hb
    rcases hb with rfl | rfl | rfl | rfl | rfl | rfl
    · exact ⟨_, hz, fun v q => by cases q⟩
    · exact ⟨_, hTI, fun v q => by cases q⟩
    · exact ⟨_, hTO, fun v q => by cases q⟩
    · exact ⟨_, e1, fun v q => by rw [d1] at q; cases q⟩
    · exact ⟨_, e2, fun v q => by rw [d2] at q; cases q⟩
    · exact ⟨_, e3, fun v q => by rw [d3] at q; cases q⟩
  keep := fun i h h' st k => by
    obtain ⟨hz, hTI, ⟨a, c, d, hTO⟩, h1, h2, h3⟩ := st
    exact ⟨k z (by simp) _ hz, k TI (by simp) _ hTI, ⟨a, c, d, k TO (by simp) _ hTO⟩, h1.at fun o e => k i1 (by simp) o e, h2.at fun o e => k i2 (by simp) o e, h3.at fun o e => k i3 (by simp) o e⟩
  item := by
    intro X hP hw hK hc i pins s σ H E I hf st hg
    subst hP hw hK
    obtain ⟨xs, ys, zs, x, y, v, hq1, hq2, hq3, hx, hy, hv⟩ := hg
    obtain ⟨its1, rv1, p1, _⟩ := I.list hq1
    obtain ⟨its2, rv2, p2, _⟩ := I.list hq2
    obtain ⟨its3, rv3, p3, _⟩ := I.list hq3
    obtain ⟨u1, hu1, ru1⟩ := rv1.get hx
    obtain ⟨u2, hu2, ru2⟩ := rv2.get hy
    obtain ⟨u3, hu3, ru3⟩ := rv3.get hv
    obtain ⟨hz, hTI, ⟨a, b, c, hTO⟩, h1, h2, h3⟩ := st
    refine pyNext_zip3_item D (apart3_of hz hTO h1 h2 h3 p1.isList) (apart3_of hz hTO h1 h2 h3 p2.isList) (apart3_of hz hTO h1 h2 h3 p3.isList) hz hTI hTO h1 h2 h3 p1.isList p2.isList p3.isList (x := u1) (y := u2) (v := u3) (by simpa using hu1) (by simpa using hu2) (by simpa using hu3) fun h' a1 a2 a3 a4 a4' a5 a6 hk => ?_
    refine ⟨_, rfl, ?_⟩
    refine wpAny_letOwnedTupleGo_zip a1 fun h'' hz'' hs'' => ?_
    have hzs : z < s.heap.objs.size := Heap.lt_size hz
    have kk : ∀ c o, c ∉ [z, TI, TO, i1, i2, i3] → s.heap.get? c = some o → h''.get? c = some o := fun c o hc e => by
      simp only [List.mem_cons, List.not_mem_nil, or_false, not_or] at hc
      exact hs''.extBut _ _ hc.1 (hk c o hc.1 hc.2.2.1 hc.2.2.2.1 hc.2.2.2.2.1 hc.2.2.2.2.2 e)
    have hT : h''.get? s.heap.objs.size = some { cls := .type "tuple", data := .seq #[u1, u2, u3] } := hs''.extBut _ _ (Nat.ne_of_gt hzs) a5
    have I2 : Inv X pins σ (upd H s.heap.objs.size (.tup [x, y, v])) { s with heap := h'', toks := s.toks } :=
      I.turnedN (T := s.heap.objs.size) (o := .tup [x, y, v]) kk hf (Nat.le_refl _) ⟨by show 3 ≤ sizeLine; decide, [u1, u2, u3], .cons ru1 (.cons ru2 (.cons ru3 .nil)), ⟨_, hT, rfl, _, rfl⟩⟩
    refine ⟨.ref s.heap.objs.size, _, I2, rfl, ⟨_, x, y, v, rfl, I.fresh, rfl, fun zs hzs' => by rw [I.list_inj hzs' hq1]; exact hx, fun zs hzs' => by rw [I.list_inj hzs' hq2]; exact hy, fun zs hzs' => by rw [I.list_inj hzs' hq3]; exact hv⟩,
      ⟨hz'', hs''.extBut _ _ D.TIz (hk _ _ D.TIz D.TITO D.TIi1 D.TIi2 D.TIi3 hTI), ⟨_, _, _, hs''.extBut _ _ D.TOz a2⟩, a3.extBut hs''.extBut D.i1z, a4.extBut hs''.extBut D.i2z, a4'.extBut hs''.extBut D.i3z⟩, fun c hc' => ?_⟩
    have hlt : c < s.heap.objs.size := by
      obtain ⟨o1, e1, _⟩ := h1
      obtain ⟨o2, e2, _⟩ := h2
      obtain ⟨o3, e3, _⟩ := h3
      simp only [List.mem_cons, List.not_mem_nil, or_false] at hc'
      rcases hc' with rfl | rfl | rfl | rfl | rfl | rfl
      · exact hzs
      · exact Heap.lt_size hTI
      · exact Heap.lt_size hTO
      · exact Heap.lt_size e1
      · exact Heap.lt_size e2
      · exact Heap.lt_size e3
    rw [upd_ne (Nat.ne_of_lt hlt)]
    exact (hf c hc').1
  done := by
    intro X hP hw hK hc i pins s σ H E I hf st hg
    subst hP hw hK
    obtain ⟨xs, ys, zs, hq1, hq2, hq3, hl⟩ := hg
    obtain ⟨its1, rv1, p1, _⟩ := I.list hq1
    obtain ⟨its2, rv2, p2, _⟩ := I.list hq2
    obtain ⟨its3, rv3, p3, _⟩ := I.list hq3
    obtain ⟨hz, hTI, ⟨a, b, c, hTO⟩, h1, h2, h3⟩ := st
    have l1' := rv1.length
    have l2' := rv2.length
    have l3' := rv3.length
    refine pyNext_zip3_end (I.ok.hd hc) D (apart3_of hz hTO h1 h2 h3 p1.isList) (apart3_of hz hTO h1 h2 h3 p2.isList) (apart3_of hz hTO h1 h2 h3 p3.isList) hz hTI hTO h1 h2 h3 p1.isList p2.isList p3.isList ?_ fun h' hk => ⟨rfl, ?_⟩
    · rcases hl with q | q | q
      · exact .inl (by simp; omega)
      · exact .inr (.inl (by simp; omega))
      · exact .inr (.inr (by simp; omega))
    exact I.turnedL (t' := s.toks) (fun c o hc e => by
      simp only [List.mem_cons, List.not_mem_nil, or_false, not_or] at hc
      exact hk c o hc.1 hc.2.2.1 hc.2.2.2.1 hc.2.2.2.2.1 hc.2.2.2.2.2 e) hf
  self := fun _ _ _ _ _ st h => wpAny_pyIter_zip st.1 h

section
variable {X : Cx}
noncomputable def iZip3 (K : PySem.W.Frag) (ta : TA) : TI := fun σ H R => ta σ H fun vs H1 => ∃ a b c xs ys zs, vs = [.ref a, .ref b, .ref c] ∧ SqL K H1 a xs ∧ SqL K H1 b ys ∧ SqL K H1 c zs ∧ R (Itz3 K a b c) H1
theorem pi_zip3 {a b c : Expr} {ta : TA} {p pos : Pos} {es : List Expr} {tk : Nat} {tp : Pos} (hg : Gl X "zip") (hm : X.mg "zip" = none) (ha : PA X [a, b, c] ta) (hs : starEach [a, b, c] X.env = (false, eval a X.env) :: starEach [b, c] X.env := by rfl) (hs2 : ∀ pos, ((backTo pos (starEach [b, c] X.env)).any fun x => x.1) = false := by intro _; rfl) :
    PI X (.Tuple es tk tp) (.Call (.Name "zip" p) [a, b, c] [] pos) (iZip3 X.K ta) := by
  intro pins s σ H R I h
  refine Call_ (ld_blt I hg hm boot_zip (PyProof.Rows.callWith_type1 (thn (ha pos pins s σ H _ I h) fun us s1 hpat => ?_) hs (hs2 _)))
  obtain ⟨vs, H1, I1, r1, q1⟩ := hpat
  obtain ⟨l1, l2, l3, xs, ys, zs, e, q1, q2, q3, q⟩ := q1
  subst e
  cases r1 with
  | cons r rr =>
    cases rr with
    | cons r' rr =>
      cases rr with
      | cons r'' rr =>
      cases rr
      cases r
      cases r'
      cases r''
      obtain ⟨its1, rv1, p1, _⟩ := I1.list q1
      obtain ⟨its2, rv2, p2, _⟩ := I1.list q2
      obtain ⟨its3, rv3, p3, _⟩ := I1.list q3
      refine call_zip_3 p1.isList p2.isList p3.isList fun h' hz hTI hTO hi1 hi2 hi3 hk => ?_
      have I2 : Inv X pins σ H1 { s1 with heap := h', toks := s1.toks } := I1.kept hk
      refine wpAny_pyIter_zip (s := { s1 with heap := h' }) hz ?_
      refine ⟨_, [s1.heap.objs.size + 5, s1.heap.objs.size + 3, s1.heap.objs.size + 4, s1.heap.objs.size, s1.heap.objs.size + 1, s1.heap.objs.size + 2], _, _, H1, rfl, I2, turn_zip3 _ _ _ _ _ _ l1 l2 l3 (zip3_new _),
        ⟨hz, hTI, ⟨_, _, _, hTO⟩, hi1, hi2, hi3⟩, fun b hb => ?_, q⟩
      have hb' : s1.heap.objs.size ≤ b := by
        simp only [List.mem_cons, List.not_mem_nil, or_false] at hb
        rcases hb with rfl | rfl | rfl | rfl | rfl | rfl
        · exact Nat.le_add_right _ 5
        · exact Nat.le_add_right _ 3
        · exact Nat.le_add_right _ 4
        · exact Nat.le_refl _
        · exact Nat.le_add_right _ 1
        · exact Nat.le_add_right _ 2
      exact I1.fpOk hb' (I1.hok.fresh hb')
end

noncomputable def Ite (K : PySem.W.Frag) (l : Addr) : It :=
  ⟨fun i H => ∃ xs x, SqL K H l xs ∧ xs[i]? = some x,
   fun i H v H' => ∃ t x, v = .ref t ∧ H t = none ∧ H' = upd H t (.tup [.int i, x]) ∧ (∀ xs, SqL K H l xs → xs[i]? = some x),
   fun i H => ∃ xs, SqL K H l xs ∧ xs.length ≤ i⟩
theorem turn_enum {P : Program} {w : World} {K : PySem.W.Frag} {es : List Expr} {tk : Nat} {tp : Pos} (e it l : Addr) (hne : e ≠ it) :
    Turn P w K (.Tuple es tk tp) (Ite K l) [e, it] e (fun i h => (∃ old, IsEnum h e it (i : Nat) old) ∧ h.IsListIter it l i) where
  mem := by simp
  obj := fun i h st b hb => by
    obtain ⟨⟨old, he⟩, ⟨o1, e1, _, d1⟩⟩ := st
    simp only [List.mem_cons, List.not_mem_nil, or_false] at hb
    rcases hb with rfl | rfl
    · exact ⟨_, he, fun v q => by cases q⟩
    · exact ⟨_, e1, fun v q => by rw [d1] at q; cases q⟩
  keep := fun i h h' st k => by
    obtain ⟨⟨old, he⟩, h1⟩ := st
    exact ⟨⟨old, k e (by simp) _ he⟩, h1.at fun o q => k it (by simp) o q⟩
  item := by
    intro X hP hw hK hc i pins s σ H E I hf st hg
    subst hP hw hK
    obtain ⟨xs, x, hq1, hx⟩ := hg
    obtain ⟨its1, rv1, p1, _⟩ := I.list hq1
    obtain ⟨u1, hu1, ru1⟩ := rv1.get hx
    obtain ⟨⟨old, he⟩, h1⟩ := st
    refine wpAny_pyNext_enum_item he h1 p1.isList (x := u1) (by simpa using hu1) hne fun h' a1 a2 a3 a4 hk => ?_
    refine ⟨_, rfl, ?_⟩
    refine wpAny_letOwnedTupleGo_enum a1 fun h'' he'' hs'' => ?_
    have hzs : e < s.heap.objs.size := Heap.lt_size he
    have kk : ∀ c o, c ∉ [e, it] → s.heap.get? c = some o → h''.get? c = some o := fun c o hc q => by
      simp only [List.mem_cons, List.not_mem_nil, or_false, not_or] at hc
      exact hs''.extBut _ _ hc.1 (hk c o hc.1 hc.2 q)
    have hT : h''.get? s.heap.objs.size = some { cls := .type "tuple", data := .seq #[.int i s.toks, u1] } := hs''.extBut _ _ (Nat.ne_of_gt hzs) a3
    have I2 : Inv X pins σ (upd H s.heap.objs.size (.tup [.int i, x])) { s with heap := h'', toks := s.toks + 1 } :=
      I.turnedN (T := s.heap.objs.size) (o := .tup [.int i, x]) kk hf (Nat.le_refl _) ⟨by show 2 ≤ sizeLine; decide, [.int i s.toks, u1], .cons ⟨_, rfl⟩ (.cons ru1 .nil), ⟨_, hT, rfl, _, rfl⟩⟩
    refine ⟨.ref s.heap.objs.size, _, I2, rfl, ⟨_, x, rfl, I.fresh, rfl, fun zs hzs' => by rw [I.list_inj hzs' hq1]; exact hx⟩,
      ⟨⟨_, he''⟩, a2.extBut hs''.extBut hne.symm⟩, fun c hc' => ?_⟩
    have hlt : c < s.heap.objs.size := by
      obtain ⟨o1, e1, _⟩ := h1
      simp only [List.mem_cons, List.not_mem_nil, or_false] at hc'
      rcases hc' with rfl | rfl
      · exact hzs
      · exact Heap.lt_size e1
    rw [upd_ne (Nat.ne_of_lt hlt)]
    exact (hf c hc').1
  done := by
    intro X hP hw hK hc i pins s σ H E I hf st hg
    subst hP hw hK
    obtain ⟨xs, hq1, hl⟩ := hg
    obtain ⟨its1, rv1, p1, _⟩ := I.list hq1
    obtain ⟨⟨old, he⟩, h1⟩ := st
    have l1' := rv1.length
    refine wpAny_pyNext_enum_end (I.ok.hd hc) he h1 p1.isList (by simp; omega) fun h' hk => ⟨rfl, ?_⟩
    exact I.turnedL (t' := s.toks) (fun c o hc q => by
      simp only [List.mem_cons, List.not_mem_nil, or_false, not_or] at hc
      exact hk c o hc.2 q) hf
  self := fun A i s Q E st h => by
    obtain ⟨⟨old, he⟩, h1⟩ := st
    have hT : s.TypeIs (.ref e) "enumerate" := ⟨_, he, rfl⟩
    refine wpAny_pyIter_slot hT F.slot_enumerate_iter (wpAny_call_entry F.slot_enumerate_iter hT F.entry_enumerate_iter ?_ (F.args_enumerate_iter_1 _))
    show wpAny _ _ (ret (.ref e)) _ _ s
    exact wpAny_pure ⟨_, rfl, "enumerate", _, hT, F.slot_enumerate_next.lookup, h⟩
section
variable {X : Cx}
noncomputable def iEnum (K : PySem.W.Frag) (ta : TA) : TI := fun σ H R => ta σ H fun vs H1 => ∃ a xs, vs = [.ref a] ∧ SqL K H1 a xs ∧ R (Ite K a) H1
theorem pi_enum {a : Expr} {ta : TA} {p pos : Pos} {es : List Expr} {tk : Nat} {tp : Pos} (hg : Gl X "enumerate") (hm : X.mg "enumerate" = none) (ha : PA X [a] ta) (hs : starEach [a] X.env = [(false, eval a X.env)] := by rfl) :
    PI X (.Tuple es tk tp) (.Call (.Name "enumerate" p) [a] [] pos) (iEnum X.K ta) := by
  intro pins s σ H R I h
  refine Call_ (ld_blt I hg hm boot_enumerate (PyProof.Rows.callWith_type1 (thn (ha pos pins s σ H _ I h) fun us s1 hpat => ?_) hs rfl))
  obtain ⟨vs, H1, I1, r1, q1⟩ := hpat
  obtain ⟨l, xs, e, q1, q⟩ := q1
  subst e
  cases r1 with
  | cons r rr =>
    cases rr
    cases r
    obtain ⟨its1, rv1, p1, _⟩ := I1.list q1
    refine call_enumerate_list p1.isList fun h' he hit hsz hk => ?_
    have I2 : Inv X pins σ H1 { s1 with heap := h', toks := s1.toks } := I1.kept hk
    have hT : ({ s1 with heap := h' } : Shared).TypeIs (.ref (s1.heap.objs.size + 1)) "enumerate" := ⟨_, he, rfl⟩
    refine (turn_enum (P := X.prog) (w := X.w) (K := X.K) (es := es) (tk := tk) (tp := tp) (s1.heap.objs.size + 1) s1.heap.objs.size l (Nat.ne_of_gt (Nat.lt_succ_self _))).self X.A 0 { s1 with heap := h' } _ _ ⟨⟨_, he⟩, hit⟩ ?_
    refine ⟨_, [s1.heap.objs.size + 1, s1.heap.objs.size], _, _, H1, rfl, I2, turn_enum _ _ l (Nat.ne_of_gt (Nat.lt_succ_self _)), ⟨⟨_, he⟩, hit⟩, fun b hb => ?_, q⟩
    have hb' : s1.heap.objs.size ≤ b := by
      simp only [List.mem_cons, List.not_mem_nil, or_false] at hb
      rcases hb with rfl | rfl
      · exact Nat.le_succ _
      · exact Nat.le_refl _
    exact I1.fpOk hb' (I1.hok.fresh hb')
end
end L2

set_option Elab.async false
set_option linter.all false
set_option maxRecDepth 100000
namespace L2
open PySem PySem.Spec PyProof.Rows

noncomputable def XAt (a C : Addr) (h : Heap) : Prop := ∃ o vs, h.get? a = some o ∧ o.cls = .ref C ∧ o.data = .fields vs
noncomputable def xName (K : PySem.W.Frag) (C : Addr) : Option Str := match K.lookup C with
  | some ⟨_, _, .cls cd, _⟩ => some cd.name
  | _ => none
inductive D where
  | non | bl (b : Bool) | int (i : Int) | str (x : Str) | lst (ds : List D) | tup (ds : List D) | exc (c : Str)

mutual
inductive Rep (K : PySem.W.Frag) (F : Hp) : V → D → Prop
  | non : Rep K F .non .non
  | bl (b : Bool) : Rep K F (.bl b) (.bl b)
  | int (i : Int) : Rep K F (.int i) (.int i)
  | str (x : Str) : Rep K F (.str x) (.str x)
  | lst {a : Addr} {xs : List V} {ds : List D} : SqL K F a xs → Reps K F xs ds → Rep K F (.ref a) (.lst ds)
  | tup {a : Addr} {xs : List V} {ds : List D} : SqT K F a xs → Reps K F xs ds → Rep K F (.ref a) (.tup ds)
  | exc {a C : Addr} {c : Str} : (PySem.W.nsIn K mainGlobals c = some (some (.ref C)) ∧ xName K C = some c) → F a = some (.ext (XAt a C)) → Rep K F (.ref a) (.exc c)
inductive Reps (K : PySem.W.Frag) (F : Hp) : List V → List D → Prop
  | nil : Reps K F [] []
  | cons {v : V} {d : D} {vs : List V} {ds : List D} : Rep K F v d → Reps K F vs ds → Reps K F (v :: vs) (d :: ds)
end

theorem Same.seqT {K : PySem.W.Frag} {H H' : Hp} {a : Addr} {xs : List V} (e : Same H H') (h : SqT K H a xs) : SqT K H' a xs := by
  rcases h with (h | ⟨o, h⟩) | h
  · exact .inl (.inl (e _ _ h))
  · exact .inl (.inr ⟨o, e _ _ h⟩)
  · exact .inr h
section
variable {K : PySem.W.Frag} {F F' : Hp}
mutual
theorem Rep.mono (e : Same F F') : ∀ {v : V} {d : D}, Rep K F v d → Rep K F' v d
  | _, _, .non => .non
  | _, _, .bl b => .bl b
  | _, _, .int i => .int i
  | _, _, .str x => .str x
  | _, _, .lst h r => .lst (e.seq h) (Reps.mono e r)
  | _, _, .tup h r => .tup (e.seqT h) (Reps.mono e r)
  | _, _, .exc h r => .exc h (e _ _ r)
theorem Reps.mono (e : Same F F') : ∀ {vs : List V} {ds : List D}, Reps K F vs ds → Reps K F' vs ds
  | _, _, .nil => .nil
  | _, _, .cons h r => .cons (Rep.mono e h) (Reps.mono e r)
end
theorem Reps.length : ∀ {vs : List V} {ds : List D}, Reps K F vs ds → vs.length = ds.length
  | _, _, .nil => rfl
  | _, _, .cons _ r => congrArg (· + 1) (Reps.length r)
theorem Reps.get : ∀ {vs : List V} {ds : List D} {i : Nat} {d : D}, Reps K F vs ds → ds[i]? = some d → ∃ v, vs[i]? = some v ∧ Rep K F v d
  | _, _, _, _, .nil, e => by simp at e
  | _, _, 0, _, .cons h _, e => by simp at e; subst e; exact ⟨_, rfl, h⟩
  | _, _, i + 1, d, .cons _ r, e => by
    obtain ⟨v, h1, h2⟩ := Reps.get (i := i) (d := d) r (by simpa using e)
    exact ⟨v, by simpa using h1, h2⟩
theorem Reps.get' : ∀ {vs : List V} {ds : List D} {i : Nat} {v : V}, Reps K F vs ds → vs[i]? = some v → ∃ d, ds[i]? = some d ∧ Rep K F v d
  | _, _, _, _, .nil, e => by simp at e
  | _, _, 0, _, .cons h _, e => by simp at e; subst e; exact ⟨_, rfl, h⟩
  | _, _, i + 1, d, .cons _ r, e => by
    obtain ⟨v, h1, h2⟩ := Reps.get' (i := i) (v := d) r (by simpa using e)
    exact ⟨v, by simpa using h1, h2⟩
theorem Reps.append : ∀ {vs ws : List V} {ds es : List D}, Reps K F vs ds → Reps K F ws es → Reps K F (vs ++ ws) (ds ++ es)
  | _, _, _, _, .nil, s => s
  | _, _, _, _, .cons h r, s => .cons h (Reps.append r s)
theorem Reps.take : ∀ {vs : List V} {ds : List D} (n : Nat), Reps K F vs ds → Reps K F (vs.take n) (ds.take n)
  | _, _, 0, _ => .nil
  | _, _, _ + 1, .nil => .nil
  | _, _, n + 1, .cons h r => .cons h (Reps.take n r)
theorem Reps.drop : ∀ {vs : List V} {ds : List D} (n : Nat), Reps K F vs ds → Reps K F (vs.drop n) (ds.drop n)
  | _, _, 0, r => r
  | _, _, _ + 1, .nil => .nil
  | _, _, n + 1, .cons _ r => Reps.drop n r
theorem Reps.set {v : V} {d : D} (h : Rep K F v d) : ∀ {vs : List V} {ds : List D} (i : Nat), Reps K F vs ds → Reps K F (vs.set i v) (ds.set i d)
  | _, _, _, .nil => .nil
  | _, _, 0, .cons _ r => .cons h r
  | _, _, i + 1, .cons q r => .cons q (Reps.set h i r)
theorem Reps.reverse {vs : List V} {ds : List D} (h : Reps K F vs ds) : Reps K F vs.reverse ds.reverse := by
  induction vs generalizing ds with
  | nil => cases h; exact .nil
  | cons v vs ih =>
    cases h with
    | cons h r => rw [List.reverse_cons, List.reverse_cons]; exact (ih r).append (.cons h .nil)
end

structure Ext (F H F' H' : Hp) : Prop where
  ff : Same F F'
  hh : Same H H'
  fh : Same F' H'
  new : ∀ b, F b = none → F' b ≠ none → H b = none
  nf : ∀ b o u, F' b = some (.frz o u) → F b = some (.frz o u)
theorem Ext.refl {F H : Hp} (h : Same F H) : Ext F H F H := ⟨Same.refl _, Same.refl _, h, fun b e n => absurd e n, fun _ _ _ z => z⟩
theorem Ext.trans {F H F1 H1 F2 H2 : Hp} (a : Ext F H F1 H1) (b : Ext F1 H1 F2 H2) : Ext F H F2 H2 :=
  ⟨a.ff.trans b.ff, a.hh.trans b.hh, b.fh, fun c e n => by
    by_cases h : F1 c = none
    · exact a.hh.free (b.new c h n)
    · exact a.new c e h, fun c o u z => a.nf c o u (b.nf c o u z)⟩
theorem Same.put {F H : Hp} {p : Addr} {o : HO} (h : Same F H) (hp : F p = none) : Same F (upd H p o) := fun b u e => by
  rw [upd_ne (ne_of_none e hp)]; exact h b u e
theorem Same.put2 {F H : Hp} {p : Addr} {o : HO} (h : Same F H) : Same (upd F p o) (upd H p o) := fun b u e => by
  by_cases hb : b = p
  · subst hb; rw [upd_same] at e ⊢; exact e
  · rw [upd_ne hb] at e ⊢; exact h b u e
theorem Ext.laid {F H : Hp} {p : Addr} {o : HO} (h : Same F H) (hp : H p = none) (hz : ∀ a u, o ≠ .frz a u := by intro _ _ z; cases z) : Ext F H (upd F p o) (upd H p o) :=
  ⟨(Same.refl F).put (h.free hp), (Same.refl H).put hp, h.put2, fun b e n => by
    by_cases hb : b = p
    · subst hb; exact hp
    · rw [upd_ne hb] at n; exact absurd e n, fun b a u z => by
    by_cases hb : b = p
    · subst hb; rw [upd_same] at z; exact absurd (Option.some.inj z) (hz a u)
    · rw [upd_ne hb] at z; exact z⟩
theorem Ext.own {F H : Hp} {p : Addr} {o : HO} (h : Same F H) (hp : H p = none) : Ext F H F (upd H p o) :=
  ⟨Same.refl F, (Same.refl H).put hp, h.put (h.free hp), fun b e n => absurd e n, fun _ _ _ z => z⟩
theorem Ext.freeze {F H F' H' : Hp} {p : Addr} {o : HO} (a : Ext F H F' H') (hp' : F' p = none) (hp : H p = none) (ho : H' p = some o) (hz : ∀ a u, o ≠ .frz a u := by intro _ _ z; cases z) : Ext F H (upd F' p o) H' :=
  ⟨a.ff.put (a.ff.free hp'), a.hh, fun b u e => by
      by_cases hb : b = p
      · subst hb; rw [upd_same] at e; cases e; exact ho
      · rw [upd_ne hb] at e; exact a.fh b u e, fun b e n => by
      by_cases hb : b = p
      · subst hb; exact hp
      · rw [upd_ne hb] at n; exact a.new b e n, fun b c u z => by
      by_cases hb : b = p
      · subst hb; rw [upd_same] at z; exact absurd (Option.some.inj z) (hz c u)
      · rw [upd_ne hb] at z; exact a.nf b c u z⟩

inductive S where
  | sh (d : D) | own (ds : List D) | ob (p : Addr) (ds : List D)
noncomputable abbrev Ro := List (Option S)
structure Rl (K : PySem.W.Frag) (F0 H0 F H : Hp) (σ : St) (ρ : Ro) : Prop where
  ext : Ext F0 H0 F H
  len : σ.length = ρ.length
  sh : ∀ (i : Nat) d, ρ[i]? = some (some (.sh d)) → ∃ v, σ[i]? = some (some v) ∧ Rep K F v d
  own : ∀ (i : Nat) ds, ρ[i]? = some (some (.own ds)) → ∃ p xs, σ[i]? = some (some (.ref p)) ∧ F p = none ∧ H p = some (.lst xs) ∧ Reps K F xs ds ∧ H0 p = none
  inj : ∀ (i j : Nat) p ds es, i ≠ j → ρ[i]? = some (some (.own ds)) → ρ[j]? = some (some (.own es)) → σ[i]? = some (some (.ref p)) → σ[j]? = some (some (.ref p)) → False
  ob : ∀ (i : Nat) p ds, ρ[i]? = some (some (.ob p ds)) → σ[i]? = some (some (.ref p)) ∧ F p = none ∧ H0 p = none ∧ ∃ xs, H p = some (.lst xs) ∧ Reps K F xs ds
  obn : ∀ (i j : Nat) p ds es, ρ[i]? = some (some (.ob p ds)) → ρ[j]? = some (some (.own es)) → σ[j]? = some (some (.ref p)) → False
  ob1 : ∀ (i j : Nat) p q ds es, ρ[i]? = some (some (.ob p ds)) → ρ[j]? = some (some (.ob q es)) → i = j
noncomputable def nob : Option S → Prop
  | some (.ob _ _) => False
  | _ => True
theorem set_ob {ρ : Ro} {i j : Nat} {x : Option S} {p : Addr} {ds : List D} (e : (ρ.set i x)[j]? = some (some (.ob p ds))) (hx : nob x := by exact True.intro) : i ≠ j ∧ ρ[j]? = some (some (.ob p ds)) := by
  by_cases hj : i = j
  · subst hj
    rcases Nat.lt_or_ge i ρ.length with z | z
    · rw [List.getElem?_set_self z] at e; cases e; exact hx.elim
    · rw [List.getElem?_eq_none (by simpa using z)] at e; cases e
  · rw [List.getElem?_set_ne hj] at e; exact ⟨hj, e⟩
section
variable {K : PySem.W.Frag} {F0 H0 F H F' H' : Hp} {σ : St} {ρ : Ro}
theorem Rl.fh (r : Rl K F0 H0 F H σ ρ) : Same F H := r.ext.fh
theorem Rl.go (r : Rl K F0 H0 F H σ ρ) (e : Ext F H F' H') : Rl K F0 H0 F' H' σ ρ where
  ext := r.ext.trans e
  len := r.len
  sh := fun i d h => let ⟨v, a, b⟩ := r.sh i d h; ⟨v, a, b.mono e.ff⟩
  own := fun i ds h => by
    obtain ⟨p, xs, a, b, c, d, z⟩ := r.own i ds h
    refine ⟨p, xs, a, ?_, e.hh _ _ c, d.mono e.ff, z⟩
    cases q : F' p with
    | none => rfl
    | some o => have := e.new p b (by rw [q]; simp); rw [this] at c; cases c
  inj := r.inj
  ob := fun i p ds h => by
    obtain ⟨a, b, c, xs, d, z⟩ := r.ob i p ds h
    refine ⟨a, ?_, c, xs, e.hh _ _ d, z.mono e.ff⟩
    cases q : F' p with
    | none => rfl
    | some o => have := e.new p b (by rw [q]; simp); rw [this] at d; cases d
  obn := r.obn
  ob1 := r.ob1
theorem Rl.set (r : Rl K F0 H0 F H σ ρ) {i : Nat} {v : V} {d : D} (h : Rep K F v d) : Rl K F0 H0 F H (σ.set i (some v)) (ρ.set i (some (.sh d))) where
  ext := r.ext
  len := by simp [r.len]
  sh := fun j d' e => by
    by_cases hj : i = j
    · subst hj
      have hl : i < ρ.length := by
        rcases Nat.lt_or_ge i ρ.length with z | z
        · exact z
        · rw [List.getElem?_eq_none (by simpa using z)] at e; cases e
      rw [List.getElem?_set_self hl] at e
      cases e
      exact ⟨v, by rw [List.getElem?_set_self (by rw [r.len]; exact hl)], h⟩
    · rw [List.getElem?_set_ne hj] at e ⊢
      exact r.sh j d' e
  own := fun j ds e => by
    by_cases hj : i = j
    · subst hj
      have hl : i < ρ.length := by
        rcases Nat.lt_or_ge i ρ.length with z | z
        · exact z
        · rw [List.getElem?_eq_none (by simpa using z)] at e; cases e
      rw [List.getElem?_set_self hl] at e
      cases e
    · rw [List.getElem?_set_ne hj] at e ⊢
      exact r.own j ds e
  inj := fun j k p ds es hjk e1 e2 e3 e4 => by
    have n1 : i ≠ j := fun z => by
      subst z
      have hl : i < ρ.length := by
        rcases Nat.lt_or_ge i ρ.length with z | z
        · exact z
        · rw [List.getElem?_eq_none (by simpa using z)] at e1; cases e1
      rw [List.getElem?_set_self hl] at e1; cases e1
    have n2 : i ≠ k := fun z => by
      subst z
      have hl : i < ρ.length := by
        rcases Nat.lt_or_ge i ρ.length with z | z
        · exact z
        · rw [List.getElem?_eq_none (by simpa using z)] at e2; cases e2
      rw [List.getElem?_set_self hl] at e2; cases e2
    rw [List.getElem?_set_ne n1] at e1 e3
    rw [List.getElem?_set_ne n2] at e2 e4
    exact r.inj j k p ds es hjk e1 e2 e3 e4
  ob := fun j p ds e => by
    obtain ⟨n, e⟩ := set_ob e
    rw [List.getElem?_set_ne n]; exact r.ob j p ds e
  obn := fun j k p ds es e1 e2 e3 => by
    obtain ⟨n, e1⟩ := set_ob e1
    have n2 : i ≠ k := fun z => by
      subst z
      have hl : i < ρ.length := by
        rcases Nat.lt_or_ge i ρ.length with z | z
        · exact z
        · rw [List.getElem?_eq_none (by simpa using z)] at e2; cases e2
      rw [List.getElem?_set_self hl] at e2; cases e2
    rw [List.getElem?_set_ne n2] at e2 e3
    exact r.obn j k p ds es e1 e2 e3
  ob1 := fun j k p q ds es e1 e2 => r.ob1 j k p q ds es (set_ob e1).2 (set_ob e2).2
theorem Rl.setOwn (r : Rl K F0 H0 F H σ ρ) {i : Nat} {p : Addr} {xs : List V} {ds : List D} (hF : F p = none) (hH : H p = some (.lst xs)) (h : Reps K F xs ds) (h0 : H0 p = none)
    (fr : ∀ (j : Nat) es, i ≠ j → ρ[j]? = some (some (.own es)) → σ[j]? = some (some (.ref p)) → False) (fo : ∀ (j : Nat) q es, ρ[j]? = some (some (.ob q es)) → q ≠ p) : Rl K F0 H0 F H (σ.set i (some (.ref p))) (ρ.set i (some (.own ds))) where
  ext := r.ext
  len := by simp [r.len]
  sh := fun j d' e => by
    by_cases hj : i = j
    · subst hj
      have hl : i < ρ.length := by
        rcases Nat.lt_or_ge i ρ.length with z | z
        · exact z
        · rw [List.getElem?_eq_none (by simpa using z)] at e; cases e
      rw [List.getElem?_set_self hl] at e
      cases e
    · rw [List.getElem?_set_ne hj] at e ⊢
      exact r.sh j d' e
  own := fun j es e => by
    by_cases hj : i = j
    · subst hj
      have hl : i < ρ.length := by
        rcases Nat.lt_or_ge i ρ.length with z | z
        · exact z
        · rw [List.getElem?_eq_none (by simpa using z)] at e; cases e
      rw [List.getElem?_set_self hl] at e
      cases e
      exact ⟨p, xs, by rw [List.getElem?_set_self (by rw [r.len]; exact hl)], hF, hH, h, h0⟩
    · rw [List.getElem?_set_ne hj] at e ⊢
      exact r.own j es e
  inj := fun j k q es es' hjk e1 e2 e3 e4 => by
    by_cases n1 : i = j
    · subst n1
      rw [List.getElem?_set_ne hjk] at e2 e4
      have hl : i < σ.length := by
        rcases Nat.lt_or_ge i σ.length with z | z
        · exact z
        · rw [List.getElem?_eq_none (by simpa using z)] at e3; cases e3
      rw [List.getElem?_set_self hl] at e3
      cases e3
      exact fr k es' hjk e2 e4
    · rw [List.getElem?_set_ne n1] at e1 e3
      by_cases n2 : i = k
      · subst n2
        have hl : i < σ.length := by
          rcases Nat.lt_or_ge i σ.length with z | z
          · exact z
          · rw [List.getElem?_eq_none (by simpa using z)] at e4; cases e4
        rw [List.getElem?_set_self hl] at e4
        cases e4
        exact fr j es n1 e1 e3
      · rw [List.getElem?_set_ne n2] at e2 e4
        exact r.inj j k q es es' hjk e1 e2 e3 e4
  ob := fun j q es e => by
    obtain ⟨n, e⟩ := set_ob e
    rw [List.getElem?_set_ne n]; exact r.ob j q es e
  obn := fun j k q es es' e1 e2 e3 => by
    obtain ⟨n, e1⟩ := set_ob e1
    by_cases n2 : i = k
    · subst n2
      have hl : i < σ.length := by
        rcases Nat.lt_or_ge i σ.length with z | z
        · exact z
        · rw [List.getElem?_eq_none (by simpa using z)] at e3; cases e3
      rw [List.getElem?_set_self hl] at e3
      cases e3
      exact fo j p es e1 rfl
    · rw [List.getElem?_set_ne n2] at e2 e3
      exact r.obn j k q es es' e1 e2 e3
  ob1 := fun j k p q ds es e1 e2 => r.ob1 j k p q ds es (set_ob e1).2 (set_ob e2).2
theorem Rl.freeze (r : Rl K F0 H0 F H σ ρ) {i : Nat} {ds : List D} (h : ρ[i]? = some (some (.own ds))) : ∃ F', Rl K F0 H0 F' H σ (ρ.set i (some (.sh (.lst ds)))) ∧ Same F F' := by
  obtain ⟨p, xs, a, b, c, d, z⟩ := r.own i ds h
  have hl : i < ρ.length := (List.getElem?_eq_some_iff.mp h).1
  have e : Ext F0 H0 (upd F p (.lst xs)) H := r.ext.freeze b z c
  have ff : Same F (upd F p (.lst xs)) := (Same.refl F).put b
  refine ⟨upd F p (.lst xs), ⟨e, by simp [r.len], fun j d' q => ?_, fun j es q => ?_, fun j k q es es' hjk e1 e2 e3 e4 => ?_, fun j q es e1 => ?_, fun j k q es es' e1 e2 e3 => ?_, fun j k q q' es es' e1 e2 => r.ob1 j k q q' es es' (set_ob e1).2 (set_ob e2).2⟩, ff⟩
  · by_cases hj : i = j
    · subst hj
      rw [List.getElem?_set_self hl] at q
      cases q
      exact ⟨_, a, .lst (SqL.of upd_same) (d.mono ff)⟩
    · rw [List.getElem?_set_ne hj] at q
      obtain ⟨v, v1, v2⟩ := r.sh j d' q
      exact ⟨v, v1, v2.mono ff⟩
  · by_cases hj : i = j
    · subst hj
      rw [List.getElem?_set_self hl] at q
      cases q
    · rw [List.getElem?_set_ne hj] at q
      obtain ⟨p', xs', a', b', c', d', z'⟩ := r.own j es q
      have hp : p' ≠ p := fun w => r.inj i j p ds es hj h q a (by rw [← w]; exact a')
      exact ⟨p', xs', a', by rw [upd_ne hp]; exact b', c', d'.mono ff, z'⟩
  · have n1 : i ≠ j := fun w => by subst w; rw [List.getElem?_set_self hl] at e1; cases e1
    have n2 : i ≠ k := fun w => by subst w; rw [List.getElem?_set_self hl] at e2; cases e2
    rw [List.getElem?_set_ne n1] at e1
    rw [List.getElem?_set_ne n2] at e2
    exact r.inj j k q es es' hjk e1 e2 e3 e4
  · obtain ⟨n, e1⟩ := set_ob e1
    obtain ⟨o1, o2, o3, zs, o4, o5⟩ := r.ob j q es e1
    have hp : q ≠ p := fun w => r.obn j i q es ds e1 h (by rw [w]; exact a)
    exact ⟨o1, by rw [upd_ne hp]; exact o2, o3, zs, o4, o5.mono ff⟩
  · obtain ⟨n, e1⟩ := set_ob e1
    have n2 : i ≠ k := fun w => by subst w; rw [List.getElem?_set_self hl] at e2; cases e2
    rw [List.getElem?_set_ne n2] at e2
    exact r.obn j k q es es' e1 e2 e3
theorem Rl.write (r : Rl K F0 H0 F H σ ρ) {i : Nat} {p : Addr} {ys : List V} {ds es : List D} (h : ρ[i]? = some (some (.own ds))) (hp : σ[i]? = some (some (.ref p))) (hy : Reps K F ys es) :
    Rl K F0 H0 F (upd H p (.lst ys)) σ (ρ.set i (some (.own es))) := by
  obtain ⟨p', xs', a, b, c, d, z⟩ := r.own i ds h
  rw [hp] at a; cases a
  have hl : i < ρ.length := (List.getElem?_eq_some_iff.mp h).1
  refine ⟨⟨r.ext.ff, r.ext.hh.put z, r.ext.fh.put b, r.ext.new, r.ext.nf⟩, by simp [r.len], fun j d' q => ?_, fun j fs q => ?_, fun j k q fs fs' hjk e1 e2 e3 e4 => ?_, fun j q fs e1 => ?_, fun j k q fs fs' e1 e2 e3 => ?_, fun j k q q' es es' e1 e2 => r.ob1 j k q q' es es' (set_ob e1).2 (set_ob e2).2⟩
  · by_cases hj : i = j
    · subst hj
      rw [List.getElem?_set_self hl] at q
      cases q
    · rw [List.getElem?_set_ne hj] at q
      exact r.sh j d' q
  · by_cases hj : i = j
    · subst hj
      rw [List.getElem?_set_self hl] at q
      cases q
      exact ⟨p, ys, hp, b, upd_same, hy, z⟩
    · rw [List.getElem?_set_ne hj] at q
      obtain ⟨p2, xs2, a2, b2, c2, d2, z2⟩ := r.own j fs q
      have hpp : p2 ≠ p := fun w => r.inj i j p ds fs hj h q hp (by rw [← w]; exact a2)
      exact ⟨p2, xs2, a2, b2, by rw [upd_ne hpp]; exact c2, d2, z2⟩
  · have back : ∀ (m : Nat) gs, (ρ.set i (some (S.own es)))[m]? = some (some (.own gs)) → ∃ gs', ρ[m]? = some (some (.own gs')) := fun m gs e => by
      by_cases hm : i = m
      · subst hm; exact ⟨ds, h⟩
      · rw [List.getElem?_set_ne hm] at e; exact ⟨gs, e⟩
    obtain ⟨g1, e1⟩ := back j fs e1
    obtain ⟨g2, e2⟩ := back k fs' e2
    exact r.inj j k q g1 g2 hjk e1 e2 e3 e4
  · obtain ⟨n, e1⟩ := set_ob e1
    obtain ⟨o1, o2, o3, zs, o4, o5⟩ := r.ob j q fs e1
    have hpp : q ≠ p := fun w => r.obn j i q fs ds e1 h (by rw [w]; exact hp)
    exact ⟨o1, o2, o3, zs, by rw [upd_ne hpp]; exact o4, o5⟩
  · obtain ⟨n, e1⟩ := set_ob e1
    by_cases n2 : i = k
    · subst n2; exact r.obn j i q fs ds e1 h e3
    · rw [List.getElem?_set_ne n2] at e2
      exact r.obn j k q fs fs' e1 e2 e3
theorem Rl.writeB (r : Rl K F0 H0 F H σ ρ) {i : Nat} {p : Addr} {ys : List V} {ds es : List D} (h : ρ[i]? = some (some (.ob p ds))) (hy : Reps K F ys es) :
    Rl K F0 H0 F (upd H p (.lst ys)) σ (ρ.set i (some (.ob p es))) := by
  obtain ⟨a, b, z, xs', c, d⟩ := r.ob i p ds h
  have hl : i < ρ.length := (List.getElem?_eq_some_iff.mp h).1
  have back : ∀ (j : Nat) q fs, (ρ.set i (some (S.ob p es)))[j]? = some (some (.ob q fs)) → j = i ∧ q = p ∧ fs = es := fun j q fs e => by
    by_cases hj : i = j
    · subst hj; rw [List.getElem?_set_self hl] at e; cases e; exact ⟨rfl, rfl, rfl⟩
    · rw [List.getElem?_set_ne hj] at e; exact absurd (r.ob1 i j p q ds fs h e) hj
  have other : ∀ (j : Nat) fs, (ρ.set i (some (S.ob p es)))[j]? = some (some (.own fs)) → i ≠ j ∧ ρ[j]? = some (some (.own fs)) := fun j fs e => by
    by_cases hj : i = j
    · subst hj; rw [List.getElem?_set_self hl] at e; cases e
    · rw [List.getElem?_set_ne hj] at e; exact ⟨hj, e⟩
  refine ⟨⟨r.ext.ff, r.ext.hh.put z, r.ext.fh.put b, r.ext.new, r.ext.nf⟩, by simp [r.len], fun j d' q => ?_, fun j fs q => ?_, fun j k q fs fs' hjk e1 e2 e3 e4 => r.inj j k q fs fs' hjk (other j fs e1).2 (other k fs' e2).2 e3 e4, fun j q fs e1 => ?_, fun j k q fs fs' e1 e2 e3 => ?_, fun j k q q' fs fs' e1 e2 => ?_⟩
  · by_cases hj : i = j
    · subst hj; rw [List.getElem?_set_self hl] at q; cases q
    · rw [List.getElem?_set_ne hj] at q; exact r.sh j d' q
  · obtain ⟨n, e⟩ := other j fs q
    obtain ⟨p2, xs2, a2, b2, c2, d2, z2⟩ := r.own j fs e
    have hpp : p2 ≠ p := fun w => r.obn i j p ds fs h e (by rw [← w]; exact a2)
    exact ⟨p2, xs2, a2, b2, by rw [upd_ne hpp]; exact c2, d2, z2⟩
  · obtain ⟨e2, e3, e4⟩ := back j q fs e1
    subst e2 e3 e4
    exact ⟨a, b, z, ys, upd_same, hy⟩
  · obtain ⟨e4, e5, _⟩ := back j q fs e1
    subst e4 e5
    exact r.obn j k q ds fs' h (other k fs' e2).2 e3
  · rw [(back j q fs e1).1, (back k q' fs' e2).1]
end
end L2

set_option Elab.async false
set_option linter.all false
set_option maxRecDepth 100000
namespace L2
open PySem PySem.Spec PyProof.Rows

noncomputable abbrev ME := Ro → Option D
noncomputable abbrev ML := Ro → Option (List D)
noncomputable abbrev MB := Ro → Option Bool
noncomputable def TD (K : PySem.W.Frag) (m : ME) : TE := fun σ H Q => ∃ F0 H0 F ρ d, Rl K F0 H0 F H σ ρ ∧ m ρ = some d ∧ ∀ v F' H', Ext F H F' H' → Rep K F' v d → Q v H'
noncomputable def TF (K : PySem.W.Frag) (m : ML) : TE := fun σ H Q => ∃ F0 H0 F ρ ds, Rl K F0 H0 F H σ ρ ∧ m ρ = some ds ∧ ∀ p xs F' H', Ext F H F' H' → H p = none → F' p = none → H' p = some (.lst xs) → Reps K F' xs ds → Q (.ref p) H'
noncomputable def TB (K : PySem.W.Frag) (m : ML) : TE := fun σ H Q => ∃ F0 H0 F ρ ds, Rl K F0 H0 F H σ ρ ∧ m ρ = some ds ∧ ∀ p xs F' H', Ext F H F' H' → SqL K H' p xs → Reps K F' xs ds → Q (.ref p) H'
noncomputable def TC (K : PySem.W.Frag) (c : MB) : TT := fun σ H Q => ∃ F0 H0 F ρ b, Rl K F0 H0 F H σ ρ ∧ c ρ = some b ∧ ∀ F' H', Ext F H F' H' → Q b H'
noncomputable def TAs (K : PySem.W.Frag) (m : ML) : TA := fun σ H Q => ∃ F0 H0 F ρ ds, Rl K F0 H0 F H σ ρ ∧ m ρ = some ds ∧ ∀ vs F' H', Ext F H F' H' → Reps K F' vs ds → Q vs H'
noncomputable def PD (X : Cx) (e : Expr) (m : ME) : Prop := PE X e (TD X.K m)
noncomputable def PF (X : Cx) (e : Expr) (m : ML) : Prop := PE X e (TF X.K m)
noncomputable def PB (X : Cx) (e : Expr) (m : ML) : Prop := PE X e (TB X.K m)
noncomputable def PC' (X : Cx) (e : Expr) (c : MB) : Prop := PT X e (TC X.K c)
noncomputable def PCw (X : Cx) (e : Expr) (c : MB) : Prop := PW X e (TC X.K c)
noncomputable def PAs (X : Cx) (es : List Expr) (m : ML) : Prop := PA X es (TAs X.K m)

section
variable {X : Cx} {a b c e : Expr} {ma mb : ME} {pos : Pos}
theorem PE.imp {t t' : TE} (h : PE X e t) (i : ∀ σ H Q, t' σ H Q → t σ H Q) : PE X e t' := fun pins s σ H Q I q => h pins s σ H Q I (i σ H Q q)
theorem PT.imp {t t' : TT} (h : PT X e t) (i : ∀ σ H Q, t' σ H Q → t σ H Q) : PT X e t' := fun pins s σ H Q I q => h pins s σ H Q I (i σ H Q q)
theorem PW.imp {t t' : TT} (h : PW X e t) (i : ∀ σ H Q, t' σ H Q → t σ H Q) : PW X e t' := fun w pins s σ H Q I q => h w pins s σ H Q I (i σ H Q q)
theorem PA.imp {es : List Expr} {t t' : TA} (h : PA X es t) (i : ∀ σ H Q, t' σ H Q → t σ H Q) : PA X es t' := fun pos pins s σ H Q I q => h pos pins s σ H Q I (i σ H Q q)

noncomputable def mvar (i : Nat) : ME := fun ρ => match ρ[i]? with | some (some (.sh d)) => some d | _ => none
noncomputable def bvar (i : Nat) : ML := fun ρ => match ρ[i]? with | some (some (.sh (.lst ds))) => some ds | some (some (.own ds)) => some ds | some (some (.ob _ ds)) => some ds | _ => none
noncomputable def mc (d : D) : ME := fun _ => some d
theorem pd_var (i : Nat) {x : Str} {pos : Pos} (h : PE X (.Name x pos) (tVar i)) : PD X (.Name x pos) (mvar i) := h.imp fun σ H Q hpat => by
  obtain ⟨F0, H0, F, ρ, d, r, e, q⟩ := hpat
  unfold mvar at e
  split at e
  · rename_i h'
    cases e
    obtain ⟨v, e1, e2⟩ := r.sh i _ h'
    exact ⟨v, e1, q v F H (.refl r.fh) e2⟩
  · cases e
theorem pb_var (i : Nat) {x : Str} {pos : Pos} (h : PE X (.Name x pos) (tVar i)) : PB X (.Name x pos) (bvar i) := h.imp fun σ H Q hpat => by
  obtain ⟨F0, H0, F, ρ, d, r, e, q⟩ := hpat
  unfold bvar at e
  split at e
  · rename_i ds h'
    cases e
    obtain ⟨v, e1, e2⟩ := r.sh i _ h'
    cases e2 with
    | lst s rs => exact ⟨_, e1, q _ _ F H (.refl r.fh) (r.fh.seq s) rs⟩
  · rename_i ds h'
    cases e
    obtain ⟨p, xs, e1, e2, e3, e4, _⟩ := r.own i _ h'
    exact ⟨_, e1, q _ _ F H (.refl r.fh) (SqL.of e3) e4⟩
  · rename_i p ds h'
    cases e
    obtain ⟨e1, e2, _, xs, e3, e4⟩ := r.ob i p _ h'
    exact ⟨_, e1, q _ _ F H (.refl r.fh) (SqL.of e3) e4⟩
  · cases e
theorem pd_int {i : Int} {j pos} : PD X (.Constant (.int i) j pos) (mc (.int i)) := pe_int.imp fun σ H Q hpat => by
  obtain ⟨F0, H0, F, ρ, d, r, e, q⟩ := hpat
  cases e; exact q _ F H (.refl r.fh) (.int i)
theorem pd_bl {b : Bool} {j pos} : PD X (.Constant (.bool b) j pos) (mc (.bl b)) := pe_bl.imp fun σ H Q hpat => by
  obtain ⟨F0, H0, F, ρ, d, r, e, q⟩ := hpat
  cases e; exact q _ F H (.refl r.fh) (.bl b)
theorem pd_non {j pos} : PD X (.Constant .none j pos) (mc .non) := pe_non.imp fun σ H Q hpat => by
  obtain ⟨F0, H0, F, ρ, d, r, e, q⟩ := hpat
  cases e; exact q _ F H (.refl r.fh) .non
theorem pd_str {x : Str} {j pos} : PD X (.Constant (.str x) j pos) (mc (.str x)) := pe_str.imp fun σ H Q hpat => by
  obtain ⟨F0, H0, F, ρ, d, r, e, q⟩ := hpat
  cases e; exact q _ F H (.refl r.fh) (.str x)

noncomputable def mlst (m : ML) : ME := fun ρ => (m ρ).map .lst
noncomputable def aslst (m : ME) : ML := fun ρ => match m ρ with | some (.lst ds) => some ds | _ => none
theorem pf_pd {m : ML} (h : PF X e m) : PD X e (mlst m) := h.imp fun σ H Q hpat => by
  obtain ⟨F0, H0, F, ρ, d, r, e, q⟩ := hpat
  unfold mlst at e
  cases hm : m ρ with
  | none => rw [hm] at e; cases e
  | some ds =>
    rw [hm] at e; cases e
    refine ⟨F0, H0, F, ρ, ds, r, hm, fun p xs F' H' x hp hF hH rs => ?_⟩
    exact q _ (upd F' p (.lst xs)) H' (x.freeze hF hp hH) (.lst (SqL.of upd_same) (rs.mono ((Same.refl F').put hF)))
theorem pd_pb (h : PD X e ma) : PB X e (aslst ma) := h.imp fun σ H Q hpat => by
  obtain ⟨F0, H0, F, ρ, d, r, e, q⟩ := hpat
  unfold aslst at e
  split at e
  · rename_i ds hm
    cases e
    refine ⟨F0, H0, F, ρ, _, r, hm, fun v F' H' x rv => ?_⟩
    cases rv with
    | lst s rs => exact q _ _ F' H' x (x.fh.seq s) rs
  · cases e
theorem pf_pb {m : ML} (h : PF X e m) : PB X e m := h.imp fun σ H Q ⟨F0, H0, F, ρ, d, r, e, q⟩ =>
  ⟨F0, H0, F, ρ, d, r, e, fun p xs F' H' x hp hF hH rs => q p xs F' H' x (SqL.of hH) rs⟩

@[irreducible] noncomputable def m2 (f : D → D → Option D) (x y : ME) : ME := fun ρ => (x ρ).bind fun d => (y ρ).bind fun e => f d e
noncomputable def OpD (K : PySem.W.Frag) (r : R2) (f : D → D → Option D) : Prop := ∀ (F H : Hp) (x y : V) (d e g : D) (Q : VK), Same F H → Rep K F x d → Rep K F y e → f d e = some g → (∀ v F' H', Ext F H F' H' → Rep K F' v g → Q v H') → r x y H Q
theorem m2_some {f : D → D → Option D} {ρ : Ro} {g : D} (h : m2 f ma mb ρ = some g) : ∃ d e, ma ρ = some d ∧ mb ρ = some e ∧ f d e = some g := by
  unfold m2 at h
  cases h1 : ma ρ with
  | none => rw [h1] at h; cases h
  | some d =>
    cases h2 : mb ρ with
    | none => rw [h1, h2] at h; cases h
    | some e => rw [h1, h2] at h; exact ⟨d, e, rfl, rfl, h⟩
theorem op_d {r : R2} {f : D → D → Option D} (hf : OpD X.K r f) {σ : St} {H : Hp} {Q : VK} (h : TD X.K (m2 f ma mb) σ H Q) : tOp r (TD X.K ma) (TD X.K mb) σ H Q := by
  obtain ⟨F0, H0, F, ρ, g, rl, e, q⟩ := h
  obtain ⟨d, e', h1, h2, h3⟩ := m2_some e
  refine ⟨F0, H0, F, ρ, d, rl, h1, fun x F1 H1 x1 r1 => ⟨F0, H0, F1, ρ, e', rl.go x1, h2, fun y F2 H2 x2 r2 => ?_⟩⟩
  exact hf F2 H2 x y d e' g Q x2.fh (r1.mono x2.ff) r2 h3 fun v F' H' x3 => q v F' H' ((x1.trans x2).trans x3)
theorem pd_op {op : Operator} {r : R2} {f : D → D → Option D} (ho : OpR X (binaryOp op) r) (hf : OpD X.K r f) (ha : PD X a ma) (hb : PD X b mb) : PD X (.BinOp a op b pos) (m2 f ma mb) := (pe_op ho ha hb).imp fun _ _ _ h => op_d hf h
theorem pd_cmp {op : CmpOp} {r : R2} {f : D → D → Option D} (ho : OpR X (compareOp op) r) (hf : OpD X.K r f) (ha : PD X a ma) (hb : PD X b mb) (hm : behindInMarks op b = false) : PD X (.Compare a [op] [b] pos) (m2 f ma mb) := (pe_cmpR ho ha hb hm).imp fun _ _ _ h => op_d hf h
noncomputable def mtest (m : ME) : MB := fun ρ => match m ρ with | some (.bl b) => some b | _ => none
theorem pc_cmp {op : CmpOp} {r : R2} {f : D → D → Option D} (ho : OpR X (compareOp op) r) (hf : OpD X.K r f) (ha : PD X a ma) (hb : PD X b mb) (hm : behindInMarks op b = false) : PC' X (.Compare a [op] [b] pos) (mtest (m2 f ma mb)) := (pt_cmpR ho ha hb hm).imp fun σ H Q hpat => by
  obtain ⟨F0, H0, F, ρ, g, rl, e, q⟩ := hpat
  unfold mtest at e
  split at e
  · rename_i k hk
    cases e
    refine op_d hf ⟨F0, H0, F, ρ, .bl g, rl, hk, fun v F' H' x r => ?_⟩
    cases r
    exact ⟨_, rfl, q F' H' x⟩
  · cases e

noncomputable def int2 (g : Int → Int → Option D) : D → D → Option D
  | .int i, .int j => g i j
  | _, _ => none
theorem opd_rI0 {K : PySem.W.Frag} {g : Int → Int → V} {g' : Int → Int → D} (hg : ∀ F i j, Rep K F (g i j) (g' i j)) : OpD K (rI0 g) (int2 fun i j => some (g' i j)) := by
  intro F H x y d e w Q s r1 r2 h q
  cases r1 <;> cases r2 <;> first | (cases h; done) | skip
  rename_i i j
  cases h
  exact ⟨i, j, rfl, rfl, q _ F H (.refl s) (hg F i j)⟩
theorem opd_rI {K : PySem.W.Frag} {C : Int → Int → Prop} {ok : Int → Int → Bool} {g : Int → Int → V} {g' : Int → Int → D} (hC : ∀ i j, ok i j = true → C i j) (hg : ∀ F i j, Rep K F (g i j) (g' i j)) :
    OpD K (rI C g) (int2 fun i j => if ok i j = true then some (g' i j) else none) := by
  intro F H x y d e w Q s r1 r2 h q
  cases r1 <;> cases r2 <;> first | (cases h; done) | skip
  rename_i i j
  have h : (if ok i j = true then some (g' i j) else none) = some w := h
  split at h
  · rename_i hk
    cases h
    exact ⟨i, j, rfl, rfl, hC i j hk, q _ F H (.refl s) (hg F i j)⟩
  · cases h
noncomputable def subD : D → D → Option D := int2 fun i j => some (.int (i - j))
noncomputable def mulOk (i j : Int) : Bool := (decide (-(2 ^ 64) < i) && decide (i < 2 ^ 64)) || (decide (-(2 ^ 64) < j) && decide (j < 2 ^ 64))
noncomputable def mulD : D → D → Option D := int2 fun i j => if mulOk i j = true then some (.int (i * j)) else none
noncomputable def fdivOk (_ j : Int) : Bool := decide (0 < j) && decide (j < 1073741824)
noncomputable def fdivD : D → D → Option D := int2 fun i j => if fdivOk i j = true then some (.int (i / j)) else none
noncomputable def modOk (_ j : Int) : Bool := decide (0 < j)
noncomputable def modD : D → D → Option D := int2 fun i j => if modOk i j = true then some (.int (i % j)) else none
noncomputable def powOk (i j : Int) : Bool := decide (0 ≤ j) && decide (j ≤ 1000000) && decide (i.natAbs < 2 ^ 64)
noncomputable def powD : D → D → Option D := int2 fun i j => if powOk i j = true then some (.int (i ^ j.toNat)) else none
noncomputable def shlD : D → D → Option D := int2 fun i j => if powOk i j = true then some (.int (i * 2 ^ j.toNat)) else none
noncomputable def shrOk (_ j : Int) : Bool := decide (0 ≤ j)
noncomputable def shrD : D → D → Option D := int2 fun i j => if shrOk i j = true then some (.int (i / 2 ^ j.toNat)) else none
noncomputable def andD : D → D → Option D := int2 fun i j => some (.int (Builtin.bitAnd i j))
noncomputable def ltD : D → D → Option D := int2 fun i j => some (.bl (decide (i < j)))
noncomputable def leD : D → D → Option D := int2 fun i j => some (.bl (decide (i ≤ j)))
noncomputable def gtD : D → D → Option D := int2 fun i j => some (.bl (decide (j < i)))
noncomputable def geD : D → D → Option D := int2 fun i j => some (.bl (decide (j ≤ i)))
theorem opd_sub {K : PySem.W.Frag} : OpD K (rI0 fun i j => .int (i - j)) subD := opd_rI0 fun F i j => .int _
theorem opd_mul {K : PySem.W.Frag} : OpD K (rI CMul fun i j => .int (i * j)) mulD := opd_rI (fun i j h => by
  unfold mulOk at h
  simp only [Bool.or_eq_true, Bool.and_eq_true, decide_eq_true_eq] at h
  exact h) fun F i j => .int _
theorem opd_fdiv {K : PySem.W.Frag} : OpD K (rI CDiv fun i j => .int (i / j)) fdivD := opd_rI (fun i j h => by
  unfold fdivOk at h
  simp only [Bool.and_eq_true, decide_eq_true_eq] at h
  exact h) fun F i j => .int _
theorem opd_mod {K : PySem.W.Frag} : OpD K (rI (fun _ j => 0 < j) fun i j => .int (i % j)) modD := opd_rI (fun i j h => of_decide_eq_true h) fun F i j => .int _
theorem opd_pow {K : PySem.W.Frag} : OpD K (rI CPow fun i j => .int (i ^ j.toNat)) powD := opd_rI (fun i j h => by
  unfold powOk at h
  simp only [Bool.and_eq_true, decide_eq_true_eq] at h
  exact ⟨h.1.1, h.1.2, h.2⟩) fun F i j => .int _
theorem opd_shr {K : PySem.W.Frag} : OpD K (rI (fun _ j => 0 ≤ j) fun i j => .int (i / 2 ^ j.toNat)) shrD := opd_rI (fun i j h => of_decide_eq_true h) fun F i j => .int _
theorem opd_and {K : PySem.W.Frag} : OpD K (rI0 fun i j => .int (Builtin.bitAnd i j)) andD := opd_rI0 fun F i j => .int _
theorem opd_lt {K : PySem.W.Frag} : OpD K (rI0 fun i j => .bl (decide (i < j))) ltD := opd_rI0 fun F i j => .bl _
theorem opd_le {K : PySem.W.Frag} : OpD K (rI0 fun i j => .bl (decide (i ≤ j))) leD := opd_rI0 fun F i j => .bl _
theorem opd_gt {K : PySem.W.Frag} : OpD K (rI0 fun i j => .bl (decide (j < i))) gtD := opd_rI0 fun F i j => .bl _
theorem opd_ge {K : PySem.W.Frag} : OpD K (rI0 fun i j => .bl (decide (j ≤ i))) geD := opd_rI0 fun F i j => .bl _
noncomputable def eqS : D → D → Option Bool
  | .non, .non => some true | .non, .int _ => some false | .int _, .non => some false | .non, .bl _ => some false | .bl _, .non => some false | .non, .str _ => some false | .str _, .non => some false
  | .int i, .int j => some (i == j) | .bl i, .bl j => some (i == j) | .str i, .str j => some (i == j)
  | .int _, .str _ => some false | .str _, .int _ => some false | .bl _, .str _ => some false | .str _, .bl _ => some false
  | _, _ => none
noncomputable def eqSD (d e : D) : Option D := (eqS d e).map .bl
noncomputable def neSD (d e : D) : Option D := (eqS d e).map fun b => .bl (!b)
theorem opd_eqS {K : PySem.W.Frag} : OpD K rEq eqSD := by
  intro F H x y d e w Q s r1 r2 h q
  cases r1 <;> cases r2 <;> first | (cases h; done) | (cases h; refine ⟨rfl, ?_⟩; first | exact q _ F H (.refl s) (.bl _) | (rw [dec_int]; exact q _ F H (.refl s) (.bl _)) | (rw [dec_bl]; exact q _ F H (.refl s) (.bl _)) | (rw [dec_str]; exact q _ F H (.refl s) (.bl _)))
theorem opd_neS {K : PySem.W.Frag} : OpD K rNe neSD := by
  intro F H x y d e w Q s r1 r2 h q
  cases r1 <;> cases r2 <;> first | (cases h; done) | (cases h; refine ⟨rfl, ?_⟩; first | exact q _ F H (.refl s) (.bl _) | (rw [dec_int]; exact q _ F H (.refl s) (.bl _)) | (rw [dec_bl]; exact q _ F H (.refl s) (.bl _)) | (rw [dec_str]; exact q _ F H (.refl s) (.bl _)))
noncomputable def m1 (f : D → Option D) (x : ME) : ME := fun ρ => (x ρ).bind f
noncomputable def negD : D → Option D
  | .int i => some (.int (-i))
  | _ => none
theorem m1_some {f : D → Option D} {ρ : Ro} {g : D} (h : m1 f ma ρ = some g) : ∃ d, ma ρ = some d ∧ f d = some g := by
  unfold m1 at h
  cases h1 : ma ρ with
  | none => rw [h1] at h; cases h
  | some d => rw [h1] at h; exact ⟨d, rfl, h⟩
theorem pd_neg (ha : PD X a ma) : PD X (.UnaryOp .USub a pos) (m1 negD ma) := (pe_un un_neg ha).imp fun σ H Q hpat => by
  obtain ⟨F0, H0, F, ρ, g, rl, e, q⟩ := hpat
  obtain ⟨d, h1, h2⟩ := m1_some e
  refine ⟨F0, H0, F, ρ, d, rl, h1, fun x F1 H1 x1 r1 => ?_⟩
  cases r1 <;> first | (cases h2; done) | skip
  cases h2
  exact ⟨_, rfl, q _ F1 H1 x1 (.int _)⟩
noncomputable def notD : D → Option D
  | .bl b => some (.bl (!b))
  | _ => none
theorem pd_not (ha : PD X a ma) : PD X (.UnaryOp .Not a pos) (m1 notD ma) := (pe_not ha).imp fun σ H Q hpat => by
  obtain ⟨F0, H0, F, ρ, g, rl, e, q⟩ := hpat
  obtain ⟨d, h1, h2⟩ := m1_some e
  refine ⟨F0, H0, F, ρ, d, rl, h1, fun x F1 H1 x1 r1 => ?_⟩
  cases r1 <;> first | (cases h2; done) | skip
  cases h2
  exact ⟨_, rfl, q _ F1 H1 x1 (.bl _)⟩

noncomputable def mand (x y : ME) : ME := fun ρ => match x ρ with | some (.bl true) => y ρ | some (.bl false) => some (.bl false) | _ => none
noncomputable def mor (x y : ME) : ME := fun ρ => match x ρ with | some (.bl true) => some (.bl true) | some (.bl false) => y ρ | _ => none
theorem pd_one {op} (h : PD X a ma) : PD X (.BoolOp op [a] pos) ma := pe_one h
theorem pd_and {rest : List Expr} (ha : PD X a ma) (hb : PD X (.BoolOp .And (b :: rest) pos) mb) : PD X (.BoolOp .And (a :: b :: rest) pos) (mand ma mb) := (pe_and ha hb).imp fun σ H Q hpat => by
  obtain ⟨F0, H0, F, ρ, g, rl, e, q⟩ := hpat
  unfold mand at e
  split at e
  · rename_i h1
    refine ⟨F0, H0, F, ρ, _, rl, h1, fun x F1 H1 x1 r1 => ?_⟩
    cases r1
    refine ⟨true, rfl, ?_⟩
    refine iteT ?_
    exact ⟨F0, H0, F1, ρ, g, rl.go x1, e, fun y F2 H2 x2 r2 => q y F2 H2 (x1.trans x2) r2⟩
  · rename_i h1
    cases e
    refine ⟨F0, H0, F, ρ, _, rl, h1, fun x F1 H1 x1 r1 => ?_⟩
    cases r1
    refine ⟨false, rfl, ?_⟩
    refine iteF ?_
    exact q _ F1 H1 x1 (.bl _)
  · cases e
noncomputable def truD : D → Option Bool
  | .non => some false
  | .bl b => some b
  | .int i => some (i != 0)
  | .str y => if y.length ≤ sizeLine then some ((y.length : Int) != 0) else none
  | .lst ds => some (!ds.isEmpty)
  | .tup ds => some (!ds.isEmpty)
  | .exc _ => none
noncomputable def mtru (m : ME) : MB := fun ρ => (m ρ).bind truD
theorem isEmpty_reps {K : PySem.W.Frag} {F : Hp} {vs : List V} {ds : List D} (h : Reps K F vs ds) : (!ds.isEmpty) = !vs.isEmpty := by cases h <;> rfl
theorem pc_tru (ha : PD X a ma) (he : ∀ whole, isTrue a X.env whole = (do let v ← whole; standAt a.pos; holding [v] (truthy v)) := by intro _; rfl) : PC' X a (mtru ma) := (pt_truth ha he).imp fun σ H Q hpat => by
  obtain ⟨F0, H0, F, ρ, b, rl, e, q⟩ := hpat
  unfold mtru at e
  cases h1 : ma ρ with
  | none => rw [h1] at e; cases e
  | some d =>
    rw [h1] at e
    refine ⟨F0, H0, F, ρ, d, rl, h1, fun x F1 H1 x1 r1 => ⟨b, ?_, q F1 H1 x1⟩⟩
    cases r1 with
    | non => cases e; rfl
    | bl => cases e; rfl
    | int => cases e; rfl
    | str x =>
      have e : (if x.length ≤ sizeLine then some ((x.length : Int) != 0) else none) = some b := e
      split at e
      · rename_i hz
        cases e
        exact ⟨hz, rfl⟩
      · cases e
    | lst s rs => cases e; exact .inl ⟨_, x1.fh.seq s, isEmpty_reps rs⟩
    | tup s rs => cases e; exact .inr (.inl ⟨_, x1.fh.seqT s, isEmpty_reps rs⟩)
    | exc => cases e
variable {ca cb : MB}
noncomputable def cand (x y : MB) : MB := fun ρ => match x ρ with | some true => y ρ | some false => some false | none => none
noncomputable def cor (x y : MB) : MB := fun ρ => match x ρ with | some true => some true | some false => y ρ | none => none
noncomputable def cnot (x : MB) : MB := fun ρ => (x ρ).map (!·)
theorem pc_w (h : PCw X a ca) : PC' X a ca := h.pt
theorem pw1_and (h : PC' X a ca) : PCw X (.BoolOp .And [a] pos) ca := pw_and1 h
theorem pw1_or (h : PC' X a ca) : PCw X (.BoolOp .Or [a] pos) ca := pw_or1 h
theorem pcw_and {rest : List Expr} (ha : PC' X a ca) (hb : PCw X (.BoolOp .And (b :: rest) pos) cb) : PCw X (.BoolOp .And (a :: b :: rest) pos) (cand ca cb) := (pw_and ha hb).imp fun σ H Q hpat => by
  obtain ⟨F0, H0, F, ρ, g, rl, e, q⟩ := hpat
  unfold cand at e
  split at e
  · rename_i h1
    refine ⟨F0, H0, F, ρ, _, rl, h1, fun F1 H1 x1 => ?_⟩
    refine iteT ?_
    exact ⟨F0, H0, F1, ρ, g, rl.go x1, e, fun F2 H2 x2 => q F2 H2 (x1.trans x2)⟩
  · rename_i h1
    cases e
    refine ⟨F0, H0, F, ρ, _, rl, h1, fun F1 H1 x1 => ?_⟩
    refine iteF ?_
    exact q F1 H1 x1
  · cases e
theorem pcw_or {rest : List Expr} (ha : PC' X a ca) (hb : PCw X (.BoolOp .Or (b :: rest) pos) cb) : PCw X (.BoolOp .Or (a :: b :: rest) pos) (cor ca cb) := (pw_or ha hb).imp fun σ H Q hpat => by
  obtain ⟨F0, H0, F, ρ, g, rl, e, q⟩ := hpat
  unfold cor at e
  split at e
  · rename_i h1
    cases e
    refine ⟨F0, H0, F, ρ, _, rl, h1, fun F1 H1 x1 => ?_⟩
    refine iteT ?_
    exact q F1 H1 x1
  · rename_i h1
    refine ⟨F0, H0, F, ρ, _, rl, h1, fun F1 H1 x1 => ?_⟩
    refine iteF ?_
    exact ⟨F0, H0, F1, ρ, g, rl.go x1, e, fun F2 H2 x2 => q F2 H2 (x1.trans x2)⟩
  · cases e
theorem pc_not (ha : PC' X a ca) : PC' X (.UnaryOp .Not a pos) (cnot ca) := (pt_not ha).imp fun σ H Q hpat => by
  obtain ⟨F0, H0, F, ρ, g, rl, e, q⟩ := hpat
  unfold cnot at e
  cases h1 : ca ρ with
  | none => rw [h1] at e; cases e
  | some k =>
    rw [h1] at e; cases e
    exact ⟨F0, H0, F, ρ, k, rl, h1, fun F1 H1 x1 => q F1 H1 x1⟩
noncomputable def mite (c : MB) (x y : ME) : ME := fun ρ => match c ρ with | some true => x ρ | some false => y ρ | none => none
theorem pd_ite (hc : PC' X c ca) (ha : PD X a ma) (hb : PD X b mb) : PD X (.IfExp c a b pos) (mite ca ma mb) := (pe_ifExp hc ha hb).imp fun σ H Q hpat => by
  obtain ⟨F0, H0, F, ρ, g, rl, e, q⟩ := hpat
  unfold mite at e
  split at e
  · rename_i h1
    refine ⟨F0, H0, F, ρ, _, rl, h1, fun F1 H1 x1 => ?_⟩
    refine iteT ?_
    exact ⟨F0, H0, F1, ρ, g, rl.go x1, e, fun v F2 H2 x2 => q v F2 H2 (x1.trans x2)⟩
  · rename_i h1
    refine ⟨F0, H0, F, ρ, _, rl, h1, fun F1 H1 x1 => ?_⟩
    refine iteF ?_
    exact ⟨F0, H0, F1, ρ, g, rl.go x1, e, fun v F2 H2 x2 => q v F2 H2 (x1.trans x2)⟩
  · cases e

noncomputable def anil : ML := fun _ => some []
@[irreducible] noncomputable def acons (x : ME) (r : ML) : ML := fun ρ => (x ρ).bind fun d => (r ρ).bind fun ds => some (d :: ds)
theorem acons_some {r : ML} {ρ : Ro} {gs : List D} (h : acons ma r ρ = some gs) : ∃ d ds, ma ρ = some d ∧ r ρ = some ds ∧ gs = d :: ds := by
  unfold acons at h
  cases h1 : ma ρ with
  | none => rw [h1] at h; cases h
  | some d =>
    cases h2 : r ρ with
    | none => rw [h1, h2] at h; cases h
    | some ds => rw [h1, h2] at h; cases h; exact ⟨d, ds, rfl, rfl, rfl⟩
theorem pas_nil : PAs X [] anil := pa_nil.imp fun σ H Q hpat => by
  obtain ⟨F0, H0, F, ρ, g, rl, e, q⟩ := hpat
  cases e; exact q [] F H (.refl rl.fh) .nil
theorem pas_cons {es : List Expr} {m : ML} (ha : PD X a ma) (hr : PAs X es m) (hs : starEach (a :: es) X.env = (false, eval a X.env) :: starEach es X.env := by rfl) : PAs X (a :: es) (acons ma m) := (pa_cons ha hr hs).imp fun σ H Q hpat => by
  obtain ⟨F0, H0, F, ρ, g, rl, e, q⟩ := hpat
  obtain ⟨d, ds, h1, h2, rfl⟩ := acons_some e
  refine ⟨F0, H0, F, ρ, d, rl, h1, fun x F1 H1 x1 r1 => ⟨F0, H0, F1, ρ, ds, rl.go x1, h2, fun xs F2 H2 x2 r2 => ?_⟩⟩
  exact q _ F2 H2 (x1.trans x2) (.cons (r1.mono x2.ff) r2)
@[irreducible] noncomputable def sized (m : ML) : ML := fun ρ => match m ρ with | some ds => if ds.length ≤ sizeLine then some ds else none | none => none
theorem sized_some {m : ML} {ρ : Ro} {gs : List D} (h : sized m ρ = some gs) : m ρ = some gs ∧ gs.length ≤ sizeLine := by
  unfold sized at h
  cases h1 : m ρ with
  | none => rw [h1] at h; cases h
  | some ds =>
    rw [h1] at h
    have h : (if ds.length ≤ sizeLine then some ds else none) = some gs := h
    split at h
    · rename_i hz; cases h; exact ⟨rfl, hz⟩
    · cases h
theorem pf_lst {es : List Expr} {m : ML} (h : PAs X es m) : PF X (.List es pos) (sized m) := (pe_lst h).imp fun σ H Q hpat => by
  obtain ⟨F0, H0, F, ρ, g, rl, e, q⟩ := hpat
  obtain ⟨h1, h2⟩ := sized_some e
  refine ⟨F0, H0, F, ρ, g, rl, h1, fun vs F1 H1 x1 r1 => ⟨by rw [r1.length]; exact h2, fun p hp => ?_⟩⟩
  exact q p vs F1 _ (x1.trans (Ext.own x1.fh hp)) (x1.hh.free hp) (x1.fh.free hp) upd_same r1
noncomputable def mtup (m : ML) : ME := fun ρ => (sized m ρ).map .tup
theorem pd_tup {es : List Expr} {m : ML} {k : Nat} (h : PAs X es m) : PD X (.Tuple es k pos) (mtup m) := (pe_tup h).imp fun σ H Q hpat => by
  obtain ⟨F0, H0, F, ρ, g, rl, e, q⟩ := hpat
  unfold mtup at e
  cases h1 : sized m ρ with
  | none => rw [h1] at e; cases e
  | some ds =>
    rw [h1] at e; cases e
    obtain ⟨h1, h2⟩ := sized_some h1
    refine ⟨F0, H0, F, ρ, ds, rl, h1, fun vs F1 H1 x1 r1 => ⟨by rw [r1.length]; exact h2, fun p hp => ?_⟩⟩
    exact q _ _ _ (x1.trans (Ext.laid x1.fh hp)) (.tup (SqT.of upd_same) (r1.mono ((Same.refl F1).put (x1.fh.free hp))))

noncomputable def mlen (m : ML) : ME := fun ρ => (m ρ).map fun ds => .int ds.length
@[irreducible] noncomputable def mix (m : ML) (i : ME) : ME := fun ρ => (m ρ).bind fun ds => (i ρ).bind fun | .int k => atI ds k | _ => none
theorem atI_reps {K : PySem.W.Frag} {F : Hp} {vs : List V} {ds : List D} {k : Int} {d : D} (r : Reps K F vs ds) (h : atI ds k = some d) : ∃ v, atI vs k = some v ∧ Rep K F v d := by
  unfold atI at h ⊢
  rw [r.length]
  cases q : ixN ds.length k with
  | none => rw [q] at h; cases h
  | some j =>
    rw [q] at h
    exact r.get h
theorem pd_ix {ml : ML} (ha : PB X a ml) (hb : PD X b mb) (hs : PlainIx b := by exact fun _ _ => rfl) : PD X (.Subscript a b pos) (mix ml mb) := (pe_ix ix_list ha hb hs).imp fun σ H Q hpat => by
  obtain ⟨F0, H0, F, ρ, g, rl, e, q⟩ := hpat
  unfold mix at e
  cases h1 : ml ρ with
  | none => rw [h1] at e; cases e
  | some ds =>
    cases h2 : mb ρ with
    | none => rw [h1, h2] at e; cases e
    | some i =>
      rw [h1, h2] at e
      refine ⟨F0, H0, F, ρ, ds, rl, h1, fun p xs F1 H1 x1 s1 r1 => ⟨F0, H0, F1, ρ, i, rl.go x1, h2, fun y F2 H2 x2 r2 => ?_⟩⟩
      cases r2 <;> first | (cases e; done) | skip
      rename_i k
      obtain ⟨v, h3, h4⟩ := atI_reps (r1.mono x2.ff) (show atI ds k = some g from e)
      exact ⟨p, xs, k, v, rfl, rfl, x2.hh.seq s1, h3, q v F2 H2 (x1.trans x2) h4⟩
theorem cut_reps {K : PySem.W.Frag} {F : Hp} {vs : List V} {ds : List D} (r : Reps K F vs ds) (lo hi : Option Int) : Reps K F (cutV vs lo hi) ((ds.drop (HT.sIx ds.length 0 lo)).take (HT.sIx ds.length ds.length hi - HT.sIx ds.length 0 lo)) := by
  unfold cutV
  rw [r.length]
  exact (r.drop _).take _
noncomputable def cutL (ds : List D) (lo hi : Option Int) : List D := (ds.drop (HT.sIx ds.length 0 lo)).take (HT.sIx ds.length ds.length hi - HT.sIx ds.length 0 lo)
noncomputable abbrev MO := Ro → Option (Option Int)
noncomputable def onone : MO := fun _ => some none
noncomputable def osome (m : ME) : MO := fun ρ => (m ρ).bind fun | .int i => some (some i) | _ => none
noncomputable def TOs (K : PySem.W.Frag) (m : MO) : TO := fun σ H Q => ∃ F0 H0 F ρ i, Rl K F0 H0 F H σ ρ ∧ m ρ = some i ∧ ∀ F' H', Ext F H F' H' → Q i H'
noncomputable def POs (X : Cx) (e : Option Expr) (m : MO) : Prop := PO X e (TOs X.K m)
theorem PO.imp {e : Option Expr} {t t' : TO} (h : PO X e t) (i : ∀ σ H Q, t' σ H Q → t σ H Q) : PO X e t' := fun pins s σ H Q I q => h pins s σ H Q I (i σ H Q q)
theorem pos_none : POs X none onone := PO.imp po_none fun σ H Q hpat => by obtain ⟨F0, H0, F, ρ, i, rl, e, q⟩ := hpat; cases e; exact q F H (.refl rl.fh)
theorem pos_some (h : PD X a ma) : POs X (some a) (osome ma) := PO.imp (po_some h) fun σ H Q hpat => by
  obtain ⟨F0, H0, F, ρ, i, rl, e, q⟩ := hpat
  unfold osome at e
  cases h1 : ma ρ with
  | none => rw [h1] at e; cases e
  | some d =>
    rw [h1] at e
    refine ⟨F0, H0, F, ρ, d, rl, h1, fun v F1 H1 x1 r1 => ?_⟩
    cases r1 <;> first | (cases e; done) | skip
    cases e
    exact ⟨_, rfl, q F1 H1 x1⟩
@[irreducible] noncomputable def mcut (m : ML) (lo hi : MO) : ML := fun ρ => (m ρ).bind fun ds => (lo ρ).bind fun l => (hi ρ).bind fun h => some (cutL ds l h)
theorem pf_cut {ml : ML} {lo hi : Option Expr} {l h : MO} (ha : PB X a ml) (hl : POs X lo l) (hh : POs X hi h) (hE : PE X e (tSl (rSlL X.K) (TB X.K ml) (TOs X.K l) (TOs X.K h))) : PF X e (mcut ml l h) := hE.imp fun σ H Q hpat => by
  obtain ⟨F0, H0, F, ρ, g, rl, e, q⟩ := hpat
  unfold mcut at e
  cases h1 : ml ρ with
  | none => rw [h1] at e; cases e
  | some ds =>
    cases h2 : l ρ with
    | none => rw [h1, h2] at e; cases e
    | some i =>
      cases h3 : h ρ with
      | none => rw [h1, h2, h3] at e; cases e
      | some j =>
        rw [h1, h2, h3] at e; cases e
        refine ⟨F0, H0, F, ρ, ds, rl, h1, fun p xs F1 H1 x1 s1 r1 => ⟨F0, H0, F1, ρ, i, rl.go x1, h2, fun F2 H2 x2 => ⟨F0, H0, F2, ρ, j, (rl.go x1).go x2, h3, fun F3 H3 x3 => ?_⟩⟩⟩
        refine ⟨p, xs, rfl, x3.hh.seq (x2.hh.seq s1), fun w hw => ?_⟩
        have xx := (x1.trans x2).trans x3
        exact q w _ F3 _ (xx.trans (Ext.own x3.fh hw)) (xx.hh.free hw) (x3.fh.free hw) upd_same (cut_reps (r1.mono (x2.ff.trans x3.ff)) i j)
end
end L2

set_option Elab.async false
set_option linter.all false
set_option maxRecDepth 100000
namespace L2
open PySem PySem.Spec PyProof.Rows

theorem list_add_any (l : Addr) (items : Array Value) (n : Nat) (b : Addr) (items2 : Array Value) (n2 : Nat) (dd dd2 : Option Addr) (sl sl2 : Array (Option Value)) (hc0 : items.size + items2.size ≤ sizeLine) :
    Meets (Builtin.«list.__add__» ⟨[.ref l, .ref b], []⟩) (fun _ R s => s.heap.get? l = some { cls := .type "list", dict := dd, data := .seq items n, slots := sl } ∧ s.heap.get? b = some { cls := .type "list", dict := dd2, data := .seq items2 n2, slots := sl2 } ∧ R (.ok (.ret (Value.ref s.heap.objs.size))) { s with heap := s.heap.push { cls := Value.type "list", data := Data.seq (items ++ items2) }, toks := s.toks }) :=
  .of_wp fun prog w A R s h => by obtain ⟨hp, g, d, tk, os⟩ := s; obtain ⟨hl, hb, h⟩ := h; have f1 := AutoSeq1.idx_int; have f2 := AutoSeq1.sub_tuple_tuple; have f3 := AutoSeq1.sub_list_list; have f4 := AutoSeq1.sub_tuple_list; have f5 := AutoSeq1.sub_list_tuple; wp_walk using AutoSeq1.wpAny_loadPart' hl, AutoSeq1.wpAny_loadPart' hb; exact ⟨_, rfl, h⟩

section
variable {X : Cx} {a b c e : Expr} {ma mb : ME} {pos : Pos}
noncomputable def rCatS (K : PySem.W.Frag) : R2 := fun x y H Q => ∃ l b xs zs, x = .ref l ∧ y = .ref b ∧ SqL K H l xs ∧ SqL K H b zs ∧ xs.length + zs.length ≤ sizeLine ∧ ∀ p, H p = none → Q (.ref p) (upd H p (.lst (xs ++ zs)))
theorem op_catS : OpR X (binaryOp .Add) (rCatS X.K) := by
  intro pins s σ H x y v u Q I rx ry h
  obtain ⟨l, b, xs, zs, rfl, rfl, hH, hB, hz, q⟩ := h
  cases rx
  cases ry
  obtain ⟨its, r, ⟨⟨cl, dd, dt, sl⟩, n, e, hc, hd, hs⟩, z⟩ := I.list hH
  obtain ⟨its2, r2, ⟨⟨cl2, dd2, dt2, sl2⟩, n2, e2, hc2, hd2, hs2⟩, z2⟩ := I.list hB
  simp only at hc hd hs hc2 hd2 hs2
  subst hc hd hs hc2 hd2 hs2
  have l1 := r.length
  have l2 := r2.length
  refine concat_meets (T := "list") ⟨_, e, rfl⟩ ⟨_, e2, rfl⟩ PySem.noFill_list_add PySem.seq_list_add F.slot_list_add F.entry_list_add (F.args_list_add_2 _ _) (list_add_any l its.toArray n b its2.toArray n2 none none sl sl2 (by rw [List.size_toArray, List.size_toArray]; omega)) ⟨e, e2, ?_⟩
  have ea : its.toArray ++ its2.toArray = (its ++ its2).toArray := by simp
  rw [ea]
  exact ⟨.ref _, _, I.lnew (t' := s.toks) (r.append r2) (by rw [List.length_append]; omega), rfl, q _ I.fresh⟩

@[irreducible] noncomputable def mcat (x y : ML) : ML := fun ρ => (x ρ).bind fun ds => (y ρ).bind fun es => if ds.length + es.length ≤ sizeLine then some (ds ++ es) else none
theorem mcat_some {x y : ML} {ρ : Ro} {gs : List D} (h : mcat x y ρ = some gs) : ∃ ds es, x ρ = some ds ∧ y ρ = some es ∧ ds.length + es.length ≤ sizeLine ∧ gs = ds ++ es := by
  unfold mcat at h
  cases h1 : x ρ with
  | none => rw [h1] at h; cases h
  | some ds =>
    cases h2 : y ρ with
    | none => rw [h1, h2] at h; cases h
    | some es =>
      rw [h1, h2] at h
      have h : (if ds.length + es.length ≤ sizeLine then some (ds ++ es) else none) = some gs := h
      split at h
      · rename_i hz; cases h; exact ⟨ds, es, rfl, rfl, hz, rfl⟩
      · cases h
theorem pf_cat {x y : ML} (ha : PB X a x) (hb : PB X b y) : PF X (.BinOp a .Add b pos) (mcat x y) := (pe_op op_catS ha hb).imp fun σ H Q hpat => by
  obtain ⟨F0, H0, F, ρ, g, rl, e, q⟩ := hpat
  obtain ⟨ds, es, h1, h2, hz, rfl⟩ := mcat_some e
  refine ⟨F0, H0, F, ρ, ds, rl, h1, fun p xs F1 H1 x1 s1 r1 => ⟨F0, H0, F1, ρ, es, rl.go x1, h2, fun p2 ys F2 H2 x2 s2 r2 => ?_⟩⟩
  refine ⟨p, p2, xs, ys, rfl, rfl, x2.hh.seq s1, s2, by rw [r1.length, r2.length]; exact hz, fun w hw => ?_⟩
  have xx := x1.trans x2
  exact q w _ F2 _ (xx.trans (Ext.own x2.fh hw)) (xx.hh.free hw) (x2.fh.free hw) upd_same ((r1.mono x2.ff).append r2)
noncomputable def addD : D → D → Option D
  | .int i, .int j => some (.int (i + j))
  | .lst ds, .lst es => if ds.length + es.length ≤ sizeLine then some (.lst (ds ++ es)) else none
  | _, _ => none
theorem opd_add {K : PySem.W.Frag} : OpD K (fun x y H Q => (rI0 fun i j => V.int (i + j)) x y H Q ∨ rCatS K x y H Q) addD := by
  intro F H x y d e w Q s r1 r2 h q
  cases r1 with
  | int i =>
    cases r2 <;> first | (cases h; done) | skip
    cases h
    exact .inl ⟨_, _, rfl, rfl, q _ F H (.refl s) (.int _)⟩
  | lst s1 t1 =>
    rename_i p1 xs1 ds1
    cases r2 with
    | lst s2 t2 =>
      rename_i p2 xs2 ds2
      have h : (if ds1.length + ds2.length ≤ sizeLine then some (D.lst (ds1 ++ ds2)) else none) = some w := h
      split at h
      · rename_i hz
        cases h
        refine .inr ⟨_, _, _, _, rfl, rfl, s.seq s1, s.seq s2, by rw [t1.length, t2.length]; exact hz, fun p hp => ?_⟩
        exact q _ _ _ (Ext.laid s hp) (.lst (SqL.of upd_same) ((t1.append t2).mono ((Same.refl F).put (s.free hp))))
      · cases h
    | _ => cases h
  | _ => cases r2 <;> cases h
theorem pd_add (ha : PD X a ma) (hb : PD X b mb) : PD X (.BinOp a .Add b pos) (m2 addD ma mb) := pd_op (OpR.or op_add op_catS) opd_add ha hb
theorem pd_sub (ha : PD X a ma) (hb : PD X b mb) : PD X (.BinOp a .Sub b pos) (m2 subD ma mb) := pd_op op_sub opd_sub ha hb
theorem pd_mul (ha : PD X a ma) (hb : PD X b mb) : PD X (.BinOp a .Mult b pos) (m2 mulD ma mb) := pd_op op_mul opd_mul ha hb
theorem pd_fdiv (ha : PD X a ma) (hb : PD X b mb) : PD X (.BinOp a .FloorDiv b pos) (m2 fdivD ma mb) := pd_op op_fdiv opd_fdiv ha hb
theorem pd_mod (ha : PD X a ma) (hb : PD X b mb) : PD X (.BinOp a .Mod b pos) (m2 modD ma mb) := pd_op op_mod opd_mod ha hb
theorem pd_pow (ha : PD X a ma) (hb : PD X b mb) : PD X (.BinOp a .Pow b pos) (m2 powD ma mb) := pd_op op_pow opd_pow ha hb
theorem pd_shr (ha : PD X a ma) (hb : PD X b mb) : PD X (.BinOp a .RShift b pos) (m2 shrD ma mb) := pd_op op_shr opd_shr ha hb
theorem pd_band (ha : PD X a ma) (hb : PD X b mb) : PD X (.BinOp a .BitAnd b pos) (m2 andD ma mb) := pd_op op_and opd_and ha hb

@[irreducible] noncomputable def call1 (f : List D → Option D) (m : ML) : ME := fun ρ => (m ρ).bind f
noncomputable def CallD (K : PySem.W.Frag) (r : List V → Hp → VK → Prop) (f : List D → Option D) : Prop := ∀ (F H : Hp) (vs : List V) (ds : List D) (g : D) (Q : VK), Same F H → Reps K F vs ds → f ds = some g → (∀ v F' H', Ext F H F' H' → Rep K F' v g → Q v H') → r vs H Q
theorem call_d {r : List V → Hp → VK → Prop} {f : List D → Option D} {m : ML} (hf : CallD X.K r f) {σ : St} {H : Hp} {Q : VK} (h : TD X.K (call1 f m) σ H Q) : tCB r (TAs X.K m) σ H Q := by
  obtain ⟨F0, H0, F, ρ, g, rl, e, q⟩ := h
  unfold call1 at e
  cases h1 : m ρ with
  | none => rw [h1] at e; cases e
  | some ds =>
    rw [h1] at e
    exact ⟨F0, H0, F, ρ, ds, rl, h1, fun vs F1 H1 x1 r1 => hf F1 H1 vs ds g Q x1.fh r1 e fun v F' H' x2 => q v F' H' (x1.trans x2)⟩
noncomputable def lenF : List D → Option D
  | [.lst ds] => some (.int ds.length)
  | [.tup ds] => some (.int ds.length)
  | [.str x] => if x.length ≤ sizeLine then some (.int x.length) else none
  | _ => none
theorem pd_lenB {e : Expr} {p : Pos} {m : ML} (hg : Gl X "len") (hm : X.mg "len" = none) (ha : PB X e m) (hs : starEach (e :: []) X.env = (false, eval e X.env) :: starEach [] X.env := by rfl) (he : starEach [e] X.env = (false, eval e X.env) :: starEach [] X.env := by rfl) (hpl : (backTo pos (starEach [] X.env)).any (·.1) = false := by rfl) : PD X (.Call (.Name "len" p) [e] [] pos) (mlen m) :=
  (pe_callB call_len_seq hg hm PySem.boot_len (pa_cons ha pa_nil hs) (by decide) (by decide) he hpl).imp fun σ H Q hpat => by
    obtain ⟨F0, H0, F, ρ, g, rl, e, q⟩ := hpat
    unfold mlen at e
    cases h1 : m ρ with
    | none => rw [h1] at e; cases e
    | some ds =>
      rw [h1] at e; cases e
      refine ⟨F0, H0, F, ρ, ds, rl, h1, fun p xs F1 H1 x1 s1 r1 => ⟨p, xs, rfl, .inl s1, ?_⟩⟩
      rw [r1.length]
      exact q _ F1 H1 x1 (.int _)
noncomputable def absF : List D → Option D
  | [.int i] => some (.int (if i < 0 then -i else i))
  | _ => none
theorem calld_abs {K : PySem.W.Frag} : CallD K (fun xs H Q => ∃ i, xs = [.int i] ∧ Q (.int (if i < 0 then -i else i)) H) absF := by
  intro F H vs ds g Q s r h q
  cases r with
  | nil => cases h
  | cons r rr =>
    cases rr with
    | cons _ _ => revert h; unfold absF; intro h; split at h <;> simp_all
    | nil =>
      cases r with
      | int i => cases h; exact ⟨_, rfl, q _ F H (.refl s) (.int _)⟩
      | _ => cases h
theorem pd_abs {e : Expr} {p : Pos} {m : ML} (hg : Gl X "abs") (hm : X.mg "abs" = none) (ha : PAs X [e] m) (he : starEach [e] X.env = (false, eval e X.env) :: starEach [] X.env := by rfl) (hpl : (backTo pos (starEach [] X.env)).any (·.1) = false := by rfl) : PD X (.Call (.Name "abs" p) [e] [] pos) (call1 absF m) :=
  (pe_callB call_abs hg hm PyProof.Rows.boot_abs ha (by decide) (by decide) he hpl).imp fun _ _ _ h => call_d calld_abs h
noncomputable def two2 (k : Int → Int → Int) : List D → Option D
  | [.int i, .int j] => some (.int (k i j))
  | _ => none
theorem calld_two {K : PySem.W.Frag} {k : Int → Int → Int} : CallD K (fun xs H Q => ∃ i j, xs = [.int i, .int j] ∧ Q (.int (k i j)) H) (two2 k) := by
  intro F H vs ds g Q s r h q
  cases r with
  | nil => cases h
  | cons r rr =>
    cases rr with
    | nil => revert h; unfold two2; intro h; split at h <;> simp_all
    | cons r2 rr =>
      cases rr with
      | cons _ _ => revert h; unfold two2; intro h; split at h <;> simp_all
      | nil =>
        cases r <;> cases r2 <;> first | (cases h; done) | (cases h; exact ⟨_, _, rfl, q _ F H (.refl s) (.int _)⟩)
noncomputable def max2F : List D → Option D := two2 fun i j => if j > i then j else i
noncomputable def min2F : List D → Option D := two2 fun i j => if j < i then j else i
theorem pd_max2 {x y : Expr} {p : Pos} {m : ML} (hc : X.calm = true) (hg : Gl X "max") (hm : X.mg "max" = none) (ha : PAs X [x, y] m) (he : starEach [x, y] X.env = (false, eval x X.env) :: starEach [y] X.env := by rfl) (hpl : (backTo pos (starEach [y] X.env)).any (·.1) = false := by rfl) : PD X (.Call (.Name "max" p) [x, y] [] pos) (call1 max2F m) :=
  (pe_callB (call_max2 hc) hg hm PyProof.Rows.boot_max ha (by decide) (by decide) he hpl).imp fun _ _ _ h => call_d (calld_two (k := fun i j => if j > i then j else i)) h
theorem pd_min2 {x y : Expr} {p : Pos} {m : ML} (hc : X.calm = true) (hg : Gl X "min") (hm : X.mg "min" = none) (ha : PAs X [x, y] m) (he : starEach [x, y] X.env = (false, eval x X.env) :: starEach [y] X.env := by rfl) (hpl : (backTo pos (starEach [y] X.env)).any (·.1) = false := by rfl) : PD X (.Call (.Name "min" p) [x, y] [] pos) (call1 min2F m) :=
  (pe_callB (call_min2 hc) hg hm PyProof.Rows.boot_min ha (by decide) (by decide) he hpl).imp fun _ _ _ h => call_d (calld_two (k := fun i j => if j < i then j else i)) h
noncomputable def intF : List D → Option D
  | [.int i] => some (.int i)
  | [.bl k] => some (.int (if k then 1 else 0))
  | _ => none
theorem pf_list {e : Expr} {p : Pos} {m : ML} (hg : Gl X "list") (hm : X.mg "list" = none) (ha : PB X e m) (hv : bootBuiltins "list" = some (.type "list")) (hs : starEach (e :: []) X.env = (false, eval e X.env) :: starEach [] X.env := by rfl) (hpl : (backTo pos (starEach [] X.env)).any (·.1) = false := by rfl) : PF X (.Call (.Name "list" p) [e] [] pos) m :=
  (pe_callTy call_list_of hg hm hv (pa_cons ha pa_nil hs) (by decide) (by decide) hs hpl).imp fun σ H Q hpat => by
    obtain ⟨F0, H0, F, ρ, ds, rl, e, q⟩ := hpat
    refine ⟨F0, H0, F, ρ, ds, rl, e, fun p xs F1 H1 x1 s1 r1 => ⟨p, xs, rfl, .inl s1, fun w hw => ?_⟩⟩
    exact q w _ F1 _ (x1.trans (Ext.own x1.fh hw)) (x1.hh.free hw) (x1.fh.free hw) upd_same r1
end
end L2

set_option Elab.async false
set_option linter.all false
set_option maxRecDepth 100000
namespace L2
open PySem PySem.Spec PyProof.Rows

inductive Out where
  | nx (ρ : Ro) | bk (ρ : Ro) | ct (ρ : Ro) | rt (d : D) | rf (ds : List D) | rp (d : D) (ds : List D) | rg (d : D) (p : Addr) (r : List D) | rgf (ds : List D) (p : Addr) (r : List D)
noncomputable abbrev MS := Ro → Option Out
noncomputable def okO (K : PySem.W.Frag) (F0 H0 Fb : Hp) (Dn : Ends) : Out → Prop
  | .nx ρ => ∀ F H σ, Rl K F0 H0 F H σ ρ → Same Fb F → Dn.nx σ H
  | .bk ρ => ∀ F H σ, Rl K F0 H0 F H σ ρ → Same Fb F → Dn.bk σ H
  | .ct ρ => ∀ F H σ, Rl K F0 H0 F H σ ρ → Same Fb F → Dn.ct σ H
  | .rt d => ∀ v F H, Ext F0 H0 F H → Rep K F v d → Dn.rt v H
  | .rf ds => ∀ p xs F H, Ext F0 H0 F H → H0 p = none → F p = none → H p = some (.lst xs) → Reps K F xs ds → Dn.rt (.ref p) H
  | .rp d ds => ∀ t v p xs F H, Ext F0 H0 F H → H0 t = none → H0 p = none → t ≠ p → F t = none → F p = none → H t = some (.tup [v, .ref p]) → H p = some (.lst xs) → Rep K F v d → Reps K F xs ds → Dn.rt (.ref t) H
  | .rg d p r => ∀ v F H xs, Ext F0 H0 F H → Rep K F v d → F p = none → H p = some (.lst xs) → Reps K F xs r → Dn.rt v H
  | .rgf ds p r => ∀ q ys F H xs, Ext F0 H0 F H → H0 q = none → F q = none → q ≠ p → H q = some (.lst ys) → Reps K F ys ds → F p = none → H p = some (.lst xs) → Reps K F xs r → Dn.rt (.ref q) H
noncomputable def TSd (K : PySem.W.Frag) (m : MS) : TS := fun Dn σ H => ∃ F0 H0 F ρ o, Rl K F0 H0 F H σ ρ ∧ m ρ = some o ∧ okO K F0 H0 F Dn o
theorem okO.mono {K : PySem.W.Frag} {F0 H0 Fb Fb' : Hp} {Dn : Ends} (s : Same Fb Fb') : ∀ {o : Out}, okO K F0 H0 Fb Dn o → okO K F0 H0 Fb' Dn o
  | .nx _, h => fun F H σ rl q => h F H σ rl (s.trans q)
  | .bk _, h => fun F H σ rl q => h F H σ rl (s.trans q)
  | .ct _, h => fun F H σ rl q => h F H σ rl (s.trans q)
  | .rt _, h => h
  | .rf _, h => h
  | .rp _ _, h => h
  | .rg _ _ _, h => h
  | .rgf _ _ _, h => h
noncomputable def PSd (X : Cx) (st : Stmt) (m : MS) : Prop := PS X st (TSd X.K m)
noncomputable def PSsd (X : Cx) (st : List Stmt) (m : MS) : Prop := PSs X st (TSd X.K m)

section
variable {X : Cx} {a b c e : Expr} {ma mb : ME} {pos : Pos} {st : Stmt} {rest : List Stmt} {m1 m2' : MS}
theorem PS.imp {t t' : TS} (h : PS X st t) (i : ∀ D σ H, t' D σ H → t D σ H) : PS X st t' := fun pins s σ H D I q => h pins s σ H D I (i D σ H q)
theorem PSs.imp {sts : List Stmt} {t t' : TS} (h : PSs X sts t) (i : ∀ D σ H, t' D σ H → t D σ H) : PSs X sts t' := fun pins s σ H D I q => h pins s σ H D I (i D σ H q)

noncomputable def mnext : MS := fun ρ => some (.nx ρ)
noncomputable def mseq (x y : MS) : MS := fun ρ => match x ρ with | some (.nx ρ') => y ρ' | o => o
theorem pssd_nil : PSsd X [] mnext := pss_nil.imp fun D σ H hpat => by obtain ⟨F0, H0, F, ρ, o, rl, e, ok⟩ := hpat; cases e; exact ok F H σ rl (Same.refl _)
theorem pssd_cons (h1 : PSd X st m1) (h2 : PSsd X rest m2') : PSsd X (st :: rest) (mseq m1 m2') := (pss_cons h1 h2).imp fun D σ H hpat => by
  obtain ⟨F0, H0, F, ρ, o, rl, e, ok⟩ := hpat
  unfold mseq at e
  cases h : m1 ρ with
  | none => rw [h] at e; cases e
  | some o1 =>
    rw [h] at e
    cases o1 with
    | nx ρ1 => exact ⟨F0, H0, F, ρ, _, rl, h, fun F' H' σ' rl' sf => ⟨F0, H0, F', ρ1, o, rl', e, ok.mono sf⟩⟩
    | bk ρ1 => cases e; exact ⟨F0, H0, F, ρ, _, rl, h, ok⟩
    | ct ρ1 => cases e; exact ⟨F0, H0, F, ρ, _, rl, h, ok⟩
    | rt d => cases e; exact ⟨F0, H0, F, ρ, _, rl, h, ok⟩
    | rf d => cases e; exact ⟨F0, H0, F, ρ, _, rl, h, ok⟩
    | rp d ds => cases e; exact ⟨F0, H0, F, ρ, _, rl, h, ok⟩
    | rg d p r => cases e; exact ⟨F0, H0, F, ρ, _, rl, h, ok⟩
    | rgf d p r => cases e; exact ⟨F0, H0, F, ρ, _, rl, h, ok⟩
theorem pssd_one (h1 : PSd X st m1) : PSsd X [st] m1 := pss_one h1
noncomputable def mif (c : MB) (x y : MS) : MS := fun ρ => match c ρ with | some true => x ρ | some false => y ρ | none => none
theorem psd_if {ca : MB} {x y : List Stmt} {mx my : MS} (hc : PC' X c ca) (hx : PSsd X x mx) (hy : PSsd X y my) : PSd X (.If c x y pos) (mif ca mx my) := (ps_if hc hx hy).imp fun D σ H hpat => by
  obtain ⟨F0, H0, F, ρ, o, rl, e, ok⟩ := hpat
  unfold mif at e
  split at e
  · rename_i h1
    refine ⟨F0, H0, F, ρ, _, rl, h1, fun F1 H1 x1 => iteT ⟨F0, H0, F1, ρ, o, rl.go x1, e, ok.mono x1.ff⟩⟩
  · rename_i h1
    refine ⟨F0, H0, F, ρ, _, rl, h1, fun F1 H1 x1 => iteF ⟨F0, H0, F1, ρ, o, rl.go x1, e, ok.mono x1.ff⟩⟩
  · cases e
noncomputable def mnever : MS := fun _ => none
theorem psd_never : PSd X st mnever := ps_never.imp fun D σ H hpat => by obtain ⟨F0, H0, F, ρ, o, rl, e, ok⟩ := hpat; cases e
noncomputable def mbreak : MS := fun ρ => some (.bk ρ)
noncomputable def mcont : MS := fun ρ => some (.ct ρ)
noncomputable def mset (i : Nat) (x : ME) : MS := fun ρ => (x ρ).map fun d => .nx (ρ.set i (some (.sh d)))
noncomputable def msetF (i : Nat) (x : ML) : MS := fun ρ => (x ρ).map fun ds => .nx (ρ.set i (some (.own ds)))
theorem asg_d {t : TE} {i : Nat} (h : PS X st (tAsg t (gName i))) (ht : ∀ σ H Q, TD X.K ma σ H Q → t σ H Q) : PSd X st (mset i ma) := h.imp fun D σ H hpat => by
  obtain ⟨F0, H0, F, ρ, o, rl, e, ok⟩ := hpat
  unfold mset at e
  cases h1 : ma ρ with
  | none => rw [h1] at e; cases e
  | some d =>
    rw [h1] at e; cases e
    exact ht _ _ _ ⟨F0, H0, F, ρ, d, rl, h1, fun v F1 H1 x1 r1 => ok F1 H1 _ ((rl.go x1).set r1) x1.ff⟩
theorem asg_f {t : TE} {i : Nat} {mf : ML} (h : PS X st (tAsg t (gName i))) (ht : ∀ σ H Q, TF X.K mf σ H Q → t σ H Q) : PSd X st (msetF i mf) := h.imp fun D σ H hpat => by
  obtain ⟨F0, H0, F, ρ, o, rl, e, ok⟩ := hpat
  unfold msetF at e
  cases h1 : mf ρ with
  | none => rw [h1] at e; cases e
  | some ds =>
    rw [h1] at e; cases e
    refine ht _ _ _ ⟨F0, H0, F, ρ, ds, rl, h1, fun p xs F1 H1 x1 hp hF hH r1 => ok F1 H1 _ ?_ x1.ff⟩
    refine (rl.go x1).setOwn hF hH r1 (rl.ext.hh.free hp) (fun j es hj e1 e2 => ?_) fun j q es e1 z => ?_
    · obtain ⟨q, ys, a1, a2, a3, _⟩ := rl.own j es e1
      rw [a1] at e2; cases e2
      rw [hp] at a3; cases a3
    · obtain ⟨_, _, _, ys, a3, _⟩ := rl.ob j q es e1
      rw [z, hp] at a3; cases a3
theorem psd_set {i : Nat} {x : Str} {pos' : Pos} (hN : X.N.Nodup) (hi : X.N[i]? = some x) (hx : Loc X.env.scope x) (he : PD X e ma) (hs : swapsWith e (some (.Name x pos')) pos.line X.env = pure false := by rfl) (hf : X.fn x = true ∨ X.env.scope.names.lookup x = some .local := by first | exact .inl rfl | exact .inr rfl | assumption) :
    PSd X (.Assign [.Name x pos'] e pos) (mset i ma) := asg_d (ps_set hN hi hx he hs hf) fun _ _ _ h => h
theorem psd_setF {i : Nat} {x : Str} {pos' : Pos} {mf : ML} (hN : X.N.Nodup) (hi : X.N[i]? = some x) (hx : Loc X.env.scope x) (he : PF X e mf) (hs : swapsWith e (some (.Name x pos')) pos.line X.env = pure false := by rfl) (hf : X.fn x = true ∨ X.env.scope.names.lookup x = some .local := by first | exact .inl rfl | exact .inr rfl | assumption) :
    PSd X (.Assign [.Name x pos'] e pos) (msetF i mf) := asg_f (ps_set hN hi hx he hs hf) fun _ _ _ h => h
noncomputable def maug (i : Nat) (x : ME) : MS := fun ρ => match ρ[i]? with | some (some (.sh (.int k))) => (x ρ).bind (fun d => match d with | .int j => some (.nx (ρ.set i (some (.sh (.int (k + j)))))) | _ => none) | _ => none
theorem psd_aug {i : Nat} {x : Str} {pos' : Pos} (hN : X.N.Nodup) (hi : X.N[i]? = some x) (hx : Loc X.env.scope x) (he : PD X e ma) (hf : X.fn x = true ∨ X.env.scope.names.lookup x = some .local := by first | exact .inl rfl | exact .inr rfl | assumption) :
    PSd X (.AugAssign (.Name x pos') .Add e pos) (maug i ma) := (ps_aug hN hi hx he ip_add hf).imp fun D σ H hpat => by
  obtain ⟨F0, H0, F, ρ, o, rl, e, ok⟩ := hpat
  unfold maug at e
  split at e
  · rename_i k h1
    obtain ⟨v, e1, e2⟩ := rl.sh i _ h1
    cases e2
    cases h2 : ma ρ with
    | none => rw [h2] at e; cases e
    | some d =>
      rw [h2] at e
      refine ⟨_, e1, F0, H0, F, ρ, d, rl, h2, fun y F1 H1 x1 r1 => ?_⟩
      cases r1 <;> first | (cases e; done) | skip
      cases e
      exact ⟨_, _, rfl, rfl, ok F1 H1 _ ((rl.go x1).set (.int _)) x1.ff⟩
  · cases e
noncomputable def mexpr (x : ME) : MS := fun ρ => (x ρ).map fun _ => .nx ρ
theorem psd_expr (he : PD X e ma) (hs : swapsWith e none pos.line X.env = pure false := by rfl) : PSd X (.Expr e pos) (mexpr ma) := (ps_expr he hs).imp fun D σ H hpat => by
  obtain ⟨F0, H0, F, ρ, o, rl, e, ok⟩ := hpat
  unfold mexpr at e
  cases h1 : ma ρ with
  | none => rw [h1] at e; cases e
  | some d =>
    rw [h1] at e; cases e
    exact ⟨F0, H0, F, ρ, d, rl, h1, fun v F1 H1 x1 r1 => ok F1 H1 _ (rl.go x1) x1.ff⟩
noncomputable def mret (x : ME) : MS := fun ρ => (x ρ).map .rt
noncomputable def mretF (x : ML) : MS := fun ρ => (x ρ).map .rf
noncomputable def mretO (i : Nat) : MS := fun ρ => match ρ[i]? with | some (some (.own ds)) => some (.rf ds) | some (some (.sh d)) => some (.rt d) | _ => none
theorem psd_ret (he : PD X e ma) : PSd X (.Return (some e) pos) (mret ma) := (ps_ret he).imp fun D σ H hpat => by
  obtain ⟨F0, H0, F, ρ, o, rl, e, ok⟩ := hpat
  unfold mret at e
  cases h1 : ma ρ with
  | none => rw [h1] at e; cases e
  | some d =>
    rw [h1] at e; cases e
    exact ⟨F0, H0, F, ρ, d, rl, h1, fun v F1 H1 x1 r1 => ok v F1 H1 (rl.ext.trans x1) r1⟩
theorem psd_retF {mf : ML} (he : PF X e mf) : PSd X (.Return (some e) pos) (mretF mf) := (ps_ret he).imp fun D σ H hpat => by
  obtain ⟨F0, H0, F, ρ, o, rl, e, ok⟩ := hpat
  unfold mretF at e
  cases h1 : mf ρ with
  | none => rw [h1] at e; cases e
  | some ds =>
    rw [h1] at e; cases e
    exact ⟨F0, H0, F, ρ, ds, rl, h1, fun p xs F1 H1 x1 hp hF hH r1 => ok p xs F1 H1 (rl.ext.trans x1) (rl.ext.hh.free hp) hF hH r1⟩
theorem psd_retO (i : Nat) {x : Str} {pos' : Pos} (h : PE X (.Name x pos') (tVar i)) : PSd X (.Return (some (.Name x pos')) pos) (mretO i) := (ps_ret h).imp fun D σ H hpat => by
  obtain ⟨F0, H0, F, ρ, o, rl, e, ok⟩ := hpat
  unfold mretO at e
  split at e
  · rename_i ds h1
    cases e
    obtain ⟨p, xs, e1, e2, e3, e4, e5⟩ := rl.own i _ h1
    exact ⟨_, e1, ok p xs F H rl.ext e5 e2 e3 e4⟩
  · rename_i d h1
    cases e
    obtain ⟨v, e1, e2⟩ := rl.sh i _ h1
    exact ⟨_, e1, ok v F H rl.ext e2⟩
  · cases e
noncomputable def mretN : MS := fun _ => some (.rt .non)
noncomputable def mapp (i : Nat) (x : ME) : MS := fun ρ => match ρ[i]? with | some (some (.own ds)) => (x ρ).bind fun d => if ds.length < sizeLine then some (.nx (ρ.set i (some (.own (ds ++ [d]))))) else none | _ => none
theorem psd_append {i : Nat} {x : Str} {e : Expr} {px apos cpos : Pos} (hv : PE X (.Name x px) (tVar i)) (he : PD X e ma)
    (hE : ∀ t, PA X [e] t → PE X (.Call (.Attribute (.Name x px) "append" apos) [e] [] cpos) (tBM X.K "list" rAppend (tVar i) t)) (hA : PAs X [e] (acons ma anil)) (hs : swapsWith (.Call (.Attribute (.Name x px) "append" apos) [e] [] cpos) none pos.line X.env = pure false := by rfl) :
    PSd X (.Expr (.Call (.Attribute (.Name x px) "append" apos) [e] [] cpos) pos) (mapp i ma) := (ps_expr (hE _ hA) hs).imp fun D σ H hpat => by
  obtain ⟨F0, H0, F, ρ, o, rl, e, ok⟩ := hpat
  unfold mapp at e
  split at e
  · rename_i ds h1
    obtain ⟨p, xs, e1, e2, e3, e4, e5⟩ := rl.own i _ h1
    cases h2 : ma ρ with
    | none => rw [h2] at e; cases e
    | some d =>
      rw [h2] at e
      have e : (if ds.length < sizeLine then some (Out.nx (ρ.set i (some (.own (ds ++ [d]))))) else none) = some o := e
      split at e
      · rename_i hz
        cases e
        refine ⟨_, e1, .inl ⟨rfl, _, SqL.of e3⟩, F0, H0, F, ρ, [d], rl, by unfold acons anil; rw [h2]; rfl, fun vs F1 H1 x1 r1 => ?_⟩
        cases r1 with
        | cons r rr =>
          cases rr
          have hp : H1 p = some (.lst xs) := x1.hh _ _ e3
          exact ⟨p, xs, _, rfl, rfl, hp, by rw [e4.length]; exact hz, ok F1 _ σ ((rl.go x1).write h1 e1 ((e4.mono x1.ff).append (.cons r .nil))) x1.ff⟩
      · cases e
  · cases e
noncomputable def msetix (i : Nat) (ix v : ME) : MS := fun ρ => (v ρ).bind fun d => match ρ[i]? with
  | some (some (.own ds)) => (ix ρ).bind (fun x => match x with | .int k => (ixN ds.length k).map fun j => .nx (ρ.set i (some (.own (ds.set j d)))) | _ => none)
  | some (some (.ob p ds)) => (ix ρ).bind (fun x => match x with | .int k => (ixN ds.length k).map fun j => .nx (ρ.set i (some (.ob p (ds.set j d)))) | _ => none)
  | _ => none
theorem psd_setix {i : Nat} (hE : PS X st (tAsg (TD X.K mb) (gSub (tVar i) (TD X.K ma) rSetL))) : PSd X st (msetix i ma mb) := hE.imp fun D σ H hpat => by
  obtain ⟨F0, H0, F, ρ, o, rl, e, ok⟩ := hpat
  unfold msetix at e
  cases h1 : mb ρ with
  | none => rw [h1] at e; cases e
  | some d =>
    rw [h1] at e
    refine ⟨F0, H0, F, ρ, d, rl, h1, fun y F1 H1 x1 r1 => ?_⟩
    dsimp only [Option.bind] at e
    split at e
    · rename_i ds h2
      obtain ⟨p, xs, e1, e2, e3, e4, e5⟩ := (rl.go x1).own i _ h2
      cases h3 : ma ρ with
      | none => rw [h3] at e; cases e
      | some k' =>
        rw [h3] at e
        refine ⟨_, e1, F0, H0, F1, ρ, k', rl.go x1, h3, fun z F2 H2 x2 r2 => ?_⟩
        cases r2 <;> first | (cases e; done) | skip
        rename_i k
        have e : (ixN ds.length k).map (fun j => Out.nx (ρ.set i (some (.own (ds.set j d))))) = some o := e
        cases h4 : ixN ds.length k with
        | none => rw [h4] at e; cases e
        | some j =>
          rw [h4] at e; cases e
          have rl2 := (rl.go x1).go x2
          refine ⟨p, xs, k, j, rfl, rfl, x2.hh _ _ e3, by rw [e4.length]; exact h4, ok F2 _ σ (rl2.write h2 e1 (Reps.set (r1.mono x2.ff) j (e4.mono x2.ff))) (x1.ff.trans x2.ff)⟩
    · rename_i p ds h2
      obtain ⟨e1, e2, e5, xs, e3, e4⟩ := (rl.go x1).ob i p _ h2
      cases h3 : ma ρ with
      | none => rw [h3] at e; cases e
      | some k' =>
        rw [h3] at e
        refine ⟨_, e1, F0, H0, F1, ρ, k', rl.go x1, h3, fun z F2 H2 x2 r2 => ?_⟩
        cases r2 <;> first | (cases e; done) | skip
        rename_i k
        have e : (ixN ds.length k).map (fun j => Out.nx (ρ.set i (some (.ob p (ds.set j d))))) = some o := e
        cases h4 : ixN ds.length k with
        | none => rw [h4] at e; cases e
        | some j =>
          rw [h4] at e; cases e
          have rl2 := (rl.go x1).go x2
          refine ⟨p, xs, k, j, rfl, rfl, x2.hh _ _ e3, by rw [e4.length]; exact h4, ok F2 _ σ (rl2.writeB h2 (Reps.set (r1.mono x2.ff) j (e4.mono x2.ff))) (x1.ff.trans x2.ff)⟩
    · cases e
noncomputable def mfreeze (i : Nat) (m : MS) : MS := fun ρ => match ρ[i]? with | some (some (.own ds)) => m (ρ.set i (some (.sh (.lst ds)))) | _ => m ρ
theorem pssd_freeze (i : Nat) {sts : List Stmt} {m : MS} (h : PSsd X sts m) : PSsd X sts (mfreeze i m) := h.imp fun D σ H hpat => by
  obtain ⟨F0, H0, F, ρ, o, rl, e, ok⟩ := hpat
  unfold mfreeze at e
  split at e
  · rename_i ds h1
    obtain ⟨F', rl', sf⟩ := rl.freeze h1
    exact ⟨F0, H0, F', _, o, rl', e, ok.mono sf⟩
  · exact ⟨F0, H0, F, ρ, o, rl, e, ok⟩

inductive Tg where
  | nm (i : Nat) | tp (is : List Nat) | nt (i : Nat) (is : List Nat)
noncomputable def setAll : List Nat → List D → Ro → Option Ro
  | [], [], ρ => some ρ
  | i :: is, d :: ds, ρ => setAll is ds (ρ.set i (some (.sh d)))
  | _, _, _ => none
noncomputable def tgD : Tg → D → Ro → Option Ro
  | .nm i, d, ρ => some (ρ.set i (some (.sh d)))
  | .tp is, .tup ds, ρ => setAll is ds ρ
  | .nt i is, .tup [d, .tup ds], ρ => setAll is ds (ρ.set i (some (.sh d)))
  | _, _, _ => none
noncomputable def TGd (K : PySem.W.Frag) (g : Tg) : TG := fun v σ H Q => ∃ F0 H0 F ρ d ρ', Rl K F0 H0 F H σ ρ ∧ Rep K F v d ∧ tgD g d ρ = some ρ' ∧ ∀ F' H' σ', Rl K F0 H0 F' H' σ' ρ' → Ext F H F' H' → Q σ' H'
noncomputable def PGd (X : Cx) (tg : Expr) (g : Tg) : Prop := PG X tg (TGd X.K g)
theorem PG.imp {tg : Expr} {t t' : TG} (h : PG X tg t) (i : ∀ v σ H Q, t' v σ H Q → t v σ H Q) : PG X tg t' := fun pins s σ H v u Q I r q => h pins s σ H v u Q I r (i v σ H Q q)
theorem pgd_name {i : Nat} {x : Str} {pos : Pos} (h : PG X (.Name x pos) (gName i)) : PGd X (.Name x pos) (.nm i) := PG.imp h fun v σ H Q hpat => by
  obtain ⟨F0, H0, F, ρ, d, ρ', rl, r, e, q⟩ := hpat
  cases e; exact q F H _ (rl.set r) (.refl rl.fh)
noncomputable def gAll : List Nat → TGs
  | [] => gNil
  | i :: is => gCons (gName i) (gAll is)
theorem gAll_ok {K : PySem.W.Frag} {F0 H0 F H : Hp} {Q : St → Hp → Prop} : ∀ (is : List Nat) (vs : List V) (ds : List D) (σ : St) (ρ ρ' : Ro), Rl K F0 H0 F H σ ρ → Reps K F vs ds → setAll is ds ρ = some ρ' → (∀ σ', Rl K F0 H0 F H σ' ρ' → Q σ' H) → gAll is vs σ H Q
  | [], _, [], σ, ρ, ρ', rl, r, e, q => by cases r; cases e; exact ⟨rfl, q σ rl⟩
  | [], _, _ :: _, _, _, _, _, _, e, _ => by cases e
  | _ :: _, _, [], _, _, _, _, _, e, _ => by cases e
  | i :: is, _, d :: ds, σ, ρ, ρ', rl, r, e, q => by
    cases r with
    | cons r rr => exact ⟨_, _, rfl, gAll_ok is _ ds _ _ ρ' (rl.set r) rr e q⟩
theorem setAll_len : ∀ (is : List Nat) (ds : List D) (ρ ρ' : Ro), setAll is ds ρ = some ρ' → ds.length = is.length
  | [], [], _, _, _ => rfl
  | [], _ :: _, _, _, e => by cases e
  | _ :: _, [], _, _, e => by cases e
  | _ :: is, _ :: ds, ρ, ρ', e => congrArg (· + 1) (setAll_len is ds _ ρ' e)
theorem pgd_tup {es : List Expr} {k n : Nat} {is : List Nat} {pos : Pos} (h : PG X (.Tuple es k pos) (gTup X.K n (gAll is))) (hn : is.length = n := by rfl) : PGd X (.Tuple es k pos) (.tp is) := PG.imp h fun v σ H Q hpat => by
  obtain ⟨F0, H0, F, ρ, d, ρ', rl, r, e, q⟩ := hpat
  cases r with
  | tup s t => exact ⟨_, _, rfl, rl.fh.seqT s, by rw [t.length, setAll_len _ _ _ _ e, hn], gAll_ok is _ _ σ ρ ρ' rl t e fun σ' rl' => q F H σ' rl' (.refl rl.fh)⟩
  | _ => cases e
noncomputable def masg (g : Tg) (x : ME) : MS := fun ρ => (x ρ).bind fun d => (tgD g d ρ).map .nx
theorem psd_asg {g : Tg} (h : PS X st (tAsg (TD X.K ma) (TGd X.K g))) : PSd X st (masg g ma) := h.imp fun D σ H hpat => by
  obtain ⟨F0, H0, F, ρ, o, rl, e, ok⟩ := hpat
  unfold masg at e
  cases h1 : ma ρ with
  | none => rw [h1] at e; cases e
  | some d =>
    rw [h1] at e
    have e : (tgD g d ρ).map Out.nx = some o := e
    cases h2 : tgD g d ρ with
    | none => rw [h2] at e; cases e
    | some ρ' =>
      rw [h2] at e; cases e
      exact ⟨F0, H0, F, ρ, d, rl, h1, fun v F1 H1 x1 r1 => ⟨F0, H0, F1, ρ, d, ρ', rl.go x1, r1, h2, fun F' H' σ' rl' x2 => ok F' H' σ' rl' (x1.ff.trans x2.ff)⟩⟩

structure ItD (K : PySem.W.Frag) (F : Hp) (J : It) (its : List D) : Prop where
  go : ∀ (i : Nat) F1 H1, Same F F1 → Same F1 H1 → i < its.length → J.go i H1
  yld : ∀ (i : Nat) F1 H1 x H2 d, Same F F1 → Same F1 H1 → its[i]? = some d → J.yld i H1 x H2 → ∃ F2, Ext F1 H1 F2 H2 ∧ Rep K F2 x d
  stop : ∀ F1 H1, Same F F1 → Same F1 H1 → J.stop its.length H1
noncomputable def TId (K : PySem.W.Frag) (mi : ML) : TI := fun σ H R => ∃ F0 H0 F ρ its, Rl K F0 H0 F H σ ρ ∧ mi ρ = some its ∧ ∀ J F' H', Ext F H F' H' → ItD K F' J its → R J H'
noncomputable def PId (X : Cx) (tg iter : Expr) (mi : ML) : Prop := PI X tg iter (TId X.K mi)
theorem PI.imp {tg it : Expr} {t t' : TI} (h : PI X tg it t) (i : ∀ σ H R, t' σ H R → t σ H R) : PI X tg it t' := fun pins s σ H R I q => h pins s σ H R I (i σ H R q)
theorem itd_list {K : PySem.W.Frag} {F : Hp} {p : Addr} {xs : List V} {ds : List D} (s : SqL K F p xs) (r : Reps K F xs ds) : ItD K F (Itl K p) ds where
  go := fun i F1 H1 a b hi => by
    obtain ⟨v, e, _⟩ := r.get (List.getElem?_eq_getElem hi)
    exact ⟨xs, v, b.seq (a.seq s), e⟩
  yld := fun i F1 H1 x H2 d a b e y => by
    obtain ⟨rfl, y⟩ := y
    obtain ⟨v, e1, e2⟩ := r.get e
    have := y xs (b.seq (a.seq s))
    rw [e1] at this; cases this
    exact ⟨F1, .refl b, e2.mono a⟩
  stop := fun F1 H1 a b => ⟨xs, b.seq (a.seq s), by rw [r.length]; exact Nat.le_refl _⟩
theorem pid_seq {tg : Expr} (hd : PD X e ma) : PId X tg e (aslst ma) := PI.imp (pi_list hd) fun σ H R hpat => by
  obtain ⟨F0, H0, F, ρ, its, rl, e, q⟩ := hpat
  unfold aslst at e
  split at e
  · rename_i ds h1
    cases e
    refine ⟨F0, H0, F, ρ, _, rl, h1, fun v F1 H1 x1 r1 => ?_⟩
    cases r1 with
    | lst s t => exact ⟨_, rfl, ⟨_, x1.fh.seq s⟩, q _ F1 H1 x1 (itd_list s t)⟩
  · cases e
noncomputable def rangeD (lo : Int) (n : Nat) : List D := (List.range n).map fun (i : Nat) => D.int (lo + (i : Int))
theorem rangeD_length (lo : Int) (n : Nat) : (rangeD lo n).length = n := by unfold rangeD; simp
theorem itd_range {K : PySem.W.Frag} {F : Hp} {lo : Int} {n : Nat} : ItD K F (Itr lo n) (rangeD lo n) where
  go := fun i F1 H1 a b hi => by rw [rangeD_length] at hi; exact hi
  yld := fun i F1 H1 x H2 d a b e y => by
    obtain ⟨rfl, rfl⟩ := y
    unfold rangeD at e
    rw [List.getElem?_map] at e
    have hi : i < n := by
      rcases Nat.lt_or_ge i n with h | h
      · exact h
      · rw [List.getElem?_eq_none (by simpa using h)] at e; cases e
    rw [List.getElem?_range hi] at e
    cases e
    exact ⟨F1, .refl b, .int _⟩
  stop := fun F1 H1 a b => by rw [rangeD_length]; exact Nat.le_refl n
noncomputable def okR (j : Int) : Bool := decide (-(2 ^ 62) ≤ j) && decide (j < 2 ^ 62)
noncomputable def rng1 : List D → Option (List D)
  | [.int j] => if okR j = true then some (rangeD 0 j.toNat) else none
  | _ => none
noncomputable def rng2 : List D → Option (List D)
  | [.int i, .int j] => if (okR i && okR j) = true then some (rangeD i (j - i).toNat) else none
  | _ => none
@[irreducible] noncomputable def mlist (f : List D → Option (List D)) (m : ML) : ML := fun ρ => (m ρ).bind f
theorem mlist_some {f : List D → Option (List D)} {m : ML} {ρ : Ro} {gs : List D} (h : mlist f m ρ = some gs) : ∃ ds, m ρ = some ds ∧ f ds = some gs := by
  unfold mlist at h
  cases h1 : m ρ with
  | none => rw [h1] at h; cases h
  | some ds => rw [h1] at h; exact ⟨ds, rfl, h⟩
theorem pid_range1 {tg a : Expr} {m : ML} {p pos : Pos} (hg : Gl X "range") (hm : X.mg "range" = none) (ha : PAs X [a] m) (hs : starEach [a] X.env = [(false, eval a X.env)] := by rfl) : PId X tg (.Call (.Name "range" p) [a] [] pos) (mlist rng1 m) := PI.imp (pi_range1 hg hm ha hs) fun σ H R hpat => by
  obtain ⟨F0, H0, F, ρ, its, rl, e, q⟩ := hpat
  obtain ⟨ds, h1, h2⟩ := mlist_some e
  refine ⟨F0, H0, F, ρ, ds, rl, h1, fun vs F1 H1 x1 r1 => ?_⟩
  unfold rng1 at h2
  split at h2
  · rename_i j
    split at h2
    · rename_i hk
      cases h2
      unfold okR at hk
      simp only [Bool.and_eq_true, decide_eq_true_eq] at hk
      cases r1 with
      | cons r rr =>
        cases rr; cases r
        exact ⟨j, rfl, hk.1, hk.2, q _ F1 H1 x1 itd_range⟩
    · cases h2
  · cases h2
theorem pid_range2 {tg a b : Expr} {m : ML} {p pos : Pos} (hg : Gl X "range") (hm : X.mg "range" = none) (ha : PAs X [a, b] m) (hs : starEach [a, b] X.env = [(false, eval a X.env), (false, eval b X.env)] := by rfl) (hs2 : starEach [b] X.env = [(false, eval b X.env)] := by rfl) : PId X tg (.Call (.Name "range" p) [a, b] [] pos) (mlist rng2 m) := PI.imp (pi_range2 hg hm ha hs hs2) fun σ H R hpat => by
  obtain ⟨F0, H0, F, ρ, its, rl, e, q⟩ := hpat
  obtain ⟨ds, h1, h2⟩ := mlist_some e
  refine ⟨F0, H0, F, ρ, ds, rl, h1, fun vs F1 H1 x1 r1 => ?_⟩
  unfold rng2 at h2
  split at h2
  · rename_i i j
    split at h2
    · rename_i hk
      cases h2
      unfold okR at hk
      simp only [Bool.and_eq_true, decide_eq_true_eq] at hk
      cases r1 with
      | cons r rr =>
        cases rr with
        | cons r2 rr =>
          cases rr; cases r; cases r2
          exact ⟨i, j, rfl, ⟨hk.1.1, hk.1.2, hk.2.1, hk.2.2⟩, q _ F1 H1 x1 itd_range⟩
    · cases h2
  · cases h2
noncomputable def zip2 : List D → Option (List D)
  | [.lst ds, .lst es] => some (List.zipWith (fun d e => .tup [d, e]) ds es)
  | _ => none
theorem itd_zip2 {K : PySem.W.Frag} {F : Hp} {p q : Addr} {xs ys : List V} {ds es : List D} (s : SqL K F p xs) (r : Reps K F xs ds) (s' : SqL K F q ys) (r' : Reps K F ys es) : ItD K F (Itz2 K p q) (List.zipWith (fun d e => D.tup [d, e]) ds es) where
  go := fun i F1 H1 a b hi => by
    rw [List.length_zipWith] at hi
    obtain ⟨v, e, _⟩ := r.get (List.getElem?_eq_getElem (show i < ds.length by omega))
    obtain ⟨w, e', _⟩ := r'.get (List.getElem?_eq_getElem (show i < es.length by omega))
    exact ⟨xs, ys, v, w, b.seq (a.seq s), b.seq (a.seq s'), e, e'⟩
  yld := fun i F1 H1 x H2 d a b e y => by
    obtain ⟨t, u, v, rfl, ht, rfl, y1, y2⟩ := y
    have y1 := y1 xs (b.seq (a.seq s))
    have y2 := y2 ys (b.seq (a.seq s'))
    obtain ⟨d1, e1, r1⟩ := r.get' y1
    obtain ⟨d2, e2, r2⟩ := r'.get' y2
    rw [List.getElem?_zipWith, e1, e2] at e
    cases e
    refine ⟨upd F1 t (.tup [u, v]), Ext.laid b ht, .tup (SqT.of upd_same) ?_⟩
    have mm : Same F (upd F1 t (.tup [u, v])) := a.trans ((Same.refl F1).put (b.free ht))
    exact .cons (r1.mono mm) (.cons (r2.mono mm) .nil)
  stop := fun F1 H1 a b => ⟨xs, ys, b.seq (a.seq s), b.seq (a.seq s'), by rw [r.length, r'.length, List.length_zipWith]; omega⟩
theorem pid_zip2 {es : List Expr} {tk : Nat} {tp : Pos} {a b : Expr} {m : ML} {p pos : Pos} (hg : Gl X "zip") (hm : X.mg "zip" = none) (ha : PAs X [a, b] m) (hs : starEach [a, b] X.env = [(false, eval a X.env), (false, eval b X.env)] := by rfl) (hs2 : starEach [b] X.env = [(false, eval b X.env)] := by rfl) : PId X (.Tuple es tk tp) (.Call (.Name "zip" p) [a, b] [] pos) (mlist zip2 m) := PI.imp (pi_zip2 hg hm ha hs hs2) fun σ H R hpat => by
  obtain ⟨F0, H0, F, ρ, its, rl, e, q⟩ := hpat
  obtain ⟨ds, h1, h2⟩ := mlist_some e
  refine ⟨F0, H0, F, ρ, ds, rl, h1, fun vs F1 H1 x1 r1 => ?_⟩
  unfold zip2 at h2
  split at h2
  · cases h2
    cases r1 with
    | cons r rr =>
      cases rr with
      | cons r2 rr =>
        cases rr
        cases r with
        | lst s t =>
          cases r2 with
          | lst s2 t2 => exact ⟨_, _, _, _, rfl, x1.fh.seq s, x1.fh.seq s2, q _ F1 H1 x1 (itd_zip2 s t s2 t2)⟩
  · cases h2
noncomputable def zipW3 : List D → List D → List D → List D
  | d :: ds, e :: es, f :: fs => .tup [d, e, f] :: zipW3 ds es fs
  | _, _, _ => []
theorem zipW3_length : ∀ ds es fs, (zipW3 ds es fs).length = min ds.length (min es.length fs.length)
  | [], _, _ => by simp [zipW3]
  | _ :: _, [], _ => by simp [zipW3]
  | _ :: _, _ :: _, [] => by simp [zipW3]
  | _ :: ds, _ :: es, _ :: fs => by simp only [zipW3, List.length_cons, zipW3_length ds es fs]; omega
theorem zipW3_get : ∀ ds es fs (i : Nat) d e f, ds[i]? = some d → es[i]? = some e → fs[i]? = some f → (zipW3 ds es fs)[i]? = some (.tup [d, e, f])
  | [], _, _, _, _, _, _, h, _, _ => by simp at h
  | _ :: _, [], _, _, _, _, _, _, h, _ => by simp at h
  | _ :: _, _ :: _, [], _, _, _, _, _, _, h => by simp at h
  | _ :: ds, _ :: es, _ :: fs, 0, d, e, f, h1, h2, h3 => by simp at h1 h2 h3; subst h1 h2 h3; rfl
  | _ :: ds, _ :: es, _ :: fs, i + 1, d, e, f, h1, h2, h3 => by
    have := zipW3_get ds es fs i d e f (by simpa using h1) (by simpa using h2) (by simpa using h3)
    simpa [zipW3] using this
noncomputable def zip3 : List D → Option (List D)
  | [.lst ds, .lst es, .lst fs] => some (zipW3 ds es fs)
  | _ => none
theorem itd_zip3 {K : PySem.W.Frag} {F : Hp} {p q o : Addr} {xs ys zs : List V} {ds es fs : List D} (s : SqL K F p xs) (r : Reps K F xs ds) (s' : SqL K F q ys) (r' : Reps K F ys es) (s'' : SqL K F o zs) (r'' : Reps K F zs fs) : ItD K F (Itz3 K p q o) (zipW3 ds es fs) where
  go := fun i F1 H1 a b hi => by
    rw [zipW3_length] at hi
    obtain ⟨v, e, _⟩ := r.get (List.getElem?_eq_getElem (show i < ds.length by omega))
    obtain ⟨w, e', _⟩ := r'.get (List.getElem?_eq_getElem (show i < es.length by omega))
    obtain ⟨u, e'', _⟩ := r''.get (List.getElem?_eq_getElem (show i < fs.length by omega))
    exact ⟨xs, ys, zs, v, w, u, b.seq (a.seq s), b.seq (a.seq s'), b.seq (a.seq s''), e, e', e''⟩
  yld := fun i F1 H1 x H2 d a b e y => by
    obtain ⟨t, u, v, w, rfl, ht, rfl, y1, y2, y3⟩ := y
    have y1 := y1 xs (b.seq (a.seq s))
    have y2 := y2 ys (b.seq (a.seq s'))
    have y3 := y3 zs (b.seq (a.seq s''))
    obtain ⟨d1, e1, r1⟩ := r.get' y1
    obtain ⟨d2, e2, r2⟩ := r'.get' y2
    obtain ⟨d3, e3, r3⟩ := r''.get' y3
    rw [zipW3_get _ _ _ i d1 d2 d3 e1 e2 e3] at e
    cases e
    refine ⟨upd F1 t (.tup [u, v, w]), Ext.laid b ht, .tup (SqT.of upd_same) ?_⟩
    have mm : Same F (upd F1 t (.tup [u, v, w])) := a.trans ((Same.refl F1).put (b.free ht))
    exact .cons (r1.mono mm) (.cons (r2.mono mm) (.cons (r3.mono mm) .nil))
  stop := fun F1 H1 a b => ⟨xs, ys, zs, b.seq (a.seq s), b.seq (a.seq s'), b.seq (a.seq s''), by rw [r.length, r'.length, r''.length, zipW3_length]; omega⟩
theorem pid_zip3 {es : List Expr} {tk : Nat} {tp : Pos} {a b c : Expr} {m : ML} {p pos : Pos} (hg : Gl X "zip") (hm : X.mg "zip" = none) (ha : PAs X [a, b, c] m) (hs : starEach [a, b, c] X.env = (false, eval a X.env) :: starEach [b, c] X.env := by rfl) (hs2 : ∀ pos, ((backTo pos (starEach [b, c] X.env)).any fun x => x.1) = false := by intro _; rfl) : PId X (.Tuple es tk tp) (.Call (.Name "zip" p) [a, b, c] [] pos) (mlist zip3 m) := PI.imp (pi_zip3 hg hm ha hs hs2) fun σ H R hpat => by
  obtain ⟨F0, H0, F, ρ, its, rl, e, q⟩ := hpat
  obtain ⟨ds, h1, h2⟩ := mlist_some e
  refine ⟨F0, H0, F, ρ, ds, rl, h1, fun vs F1 H1 x1 r1 => ?_⟩
  unfold zip3 at h2
  split at h2
  · cases h2
    cases r1 with
    | cons r rr =>
      cases rr with
      | cons r2 rr =>
        cases rr with
        | cons r3 rr =>
        cases rr
        cases r with
        | lst s t =>
          cases r2 with
          | lst s2 t2 =>
            cases r3 with
            | lst s3 t3 => exact ⟨_, _, _, _, _, _, rfl, x1.fh.seq s, x1.fh.seq s2, x1.fh.seq s3, q _ F1 H1 x1 (itd_zip3 s t s2 t2 s3 t3)⟩
  · cases h2
noncomputable def enumL : Nat → List D → List D
  | _, [] => []
  | i, d :: ds => .tup [.int i, d] :: enumL (i + 1) ds
theorem enumL_length : ∀ i ds, (enumL i ds).length = ds.length
  | _, [] => rfl
  | i, _ :: ds => by simp [enumL, enumL_length (i + 1) ds]
theorem enumL_get : ∀ (k : Nat) ds (i : Nat) d, ds[i]? = some d → (enumL k ds)[i]? = some (.tup [.int ((k + i : Nat) : Int), d])
  | _, [], _, _, h => by simp at h
  | k, _ :: ds, 0, d, h => by simp at h; subst h; rfl
  | k, _ :: ds, i + 1, d, h => by
    have := enumL_get (k + 1) ds i d (by simpa using h)
    have e : k + 1 + i = k + (i + 1) := by omega
    rw [e] at this
    simpa [enumL] using this
noncomputable def enum1 : List D → Option (List D)
  | [.lst ds] => some (enumL 0 ds)
  | _ => none
theorem itd_enum {K : PySem.W.Frag} {F : Hp} {p : Addr} {xs : List V} {ds : List D} (s : SqL K F p xs) (r : Reps K F xs ds) : ItD K F (Ite K p) (enumL 0 ds) where
  go := fun i F1 H1 a b hi => by
    rw [enumL_length] at hi
    obtain ⟨v, e, _⟩ := r.get (List.getElem?_eq_getElem hi)
    exact ⟨xs, v, b.seq (a.seq s), e⟩
  yld := fun i F1 H1 x H2 d a b e y => by
    obtain ⟨t, u, rfl, ht, rfl, y1⟩ := y
    have y1 := y1 xs (b.seq (a.seq s))
    obtain ⟨d1, e1, r1⟩ := r.get' y1
    rw [enumL_get 0 ds i d1 e1, Nat.zero_add] at e
    cases e
    refine ⟨upd F1 t (.tup [.int i, u]), Ext.laid b ht, .tup (SqT.of upd_same) ?_⟩
    have mm : Same F (upd F1 t (.tup [.int i, u])) := a.trans ((Same.refl F1).put (b.free ht))
    exact .cons (.int _) (.cons (r1.mono mm) .nil)
  stop := fun F1 H1 a b => ⟨xs, b.seq (a.seq s), by rw [r.length, enumL_length]; exact Nat.le_refl _⟩
theorem pid_enum {es : List Expr} {tk : Nat} {tp : Pos} {a : Expr} {m : ML} {p pos : Pos} (hg : Gl X "enumerate") (hm : X.mg "enumerate" = none) (ha : PAs X [a] m) (hs : starEach [a] X.env = [(false, eval a X.env)] := by rfl) : PId X (.Tuple es tk tp) (.Call (.Name "enumerate" p) [a] [] pos) (mlist enum1 m) := PI.imp (pi_enum hg hm ha hs) fun σ H R hpat => by
  obtain ⟨F0, H0, F, ρ, its, rl, e, q⟩ := hpat
  obtain ⟨ds, h1, h2⟩ := mlist_some e
  refine ⟨F0, H0, F, ρ, ds, rl, h1, fun vs F1 H1 x1 r1 => ?_⟩
  unfold enum1 at h2
  split at h2
  · cases h2
    cases r1 with
    | cons r rr =>
      cases rr
      cases r with
      | lst s t => exact ⟨_, _, rfl, x1.fh.seq s, q _ F1 H1 x1 (itd_enum s t)⟩
  · cases h2
end
end L2

set_option Elab.async false
set_option linter.all false
set_option maxRecDepth 100000
namespace L2
open PySem PySem.Spec PyProof.Rows

noncomputable def forD (g : Tg) (body : MS) : List D → MS
  | [], ρ => some (.nx ρ)
  | d :: ds, ρ => match tgD g d ρ with
    | some ρ1 => match body ρ1 with
      | some (.nx ρ2) => forD g body ds ρ2
      | some (.ct ρ2) => forD g body ds ρ2
      | some (.bk ρ2) => some (.nx ρ2)
      | o => o
    | none => none
noncomputable def mfor (mi : ML) (g : Tg) (body : MS) : MS := fun ρ => (mi ρ).bind fun its => forD g body its ρ
theorem drop_get {α : Type} {xs : List α} {i : Nat} {d : α} (h : xs[i]? = some d) : xs.drop i = d :: xs.drop (i + 1) := by
  obtain ⟨hl, e⟩ := List.getElem?_eq_some_iff.mp h
  rw [List.drop_eq_getElem_cons hl, e]
section
variable {X : Cx} {a b c e : Expr} {ma mb : ME} {pos : Pos} {st : Stmt} {rest : List Stmt}
theorem psd_for {tg iter : Expr} {body : List Stmt} {mi : ML} {g : Tg} {mb : MS} (hp : PassesOwn (model X.prog X.w) X.A X.env X.xe) (hc : X.calm = true) (hi : PId X tg iter mi) (hg : PGd X tg g) (hb : PSsd X body mb)
    (hs : ∀ x, foldedSetIterable iter X.env x = pure x := by intro _; rfl) : PSd X (.For tg iter body [] pos) (mfor mi g mb) := (ps_for hp hc hi hg hb hs).imp fun Dn σ H hpat => by
  obtain ⟨F0, H0, F, ρ, o, rl, e, ok⟩ := hpat
  unfold mfor at e
  cases h1 : mi ρ with
  | none => rw [h1] at e; cases e
  | some its =>
    rw [h1] at e
    have e : forD g mb its ρ = some o := e
    refine ⟨F0, H0, F, ρ, its, rl, h1, fun J F1 H1 x1 I => ?_⟩
    refine ⟨fun i m σ' H' => ∃ F' ρ', Rl X.K F0 H0 F' H' σ' ρ' ∧ Same F1 F' ∧ i ≤ its.length ∧ m = its.length - i ∧ forD g mb (its.drop i) ρ' = some o, ⟨_, F1, ρ, rl.go x1, Same.refl _, Nat.zero_le _, rfl, e⟩, ?_⟩
    rintro i m σ' H' ⟨F', ρ', rl', sf, hi', rfl, e'⟩
    by_cases hlt : i < its.length
    · right
      have hd := List.getElem?_eq_getElem hlt
      refine ⟨I.go i F' H' sf rl'.fh hlt, fun σ2 H2 => ∃ F2 ρ2, Rl X.K F0 H0 F2 H2 σ2 ρ2 ∧ Same F1 F2 ∧ forD g mb (its.drop (i + 1)) ρ2 = some o, ?_, fun x H2 y => ?_⟩
      · rintro σ2 H2 ⟨F2, ρ2, rl2, sf2, e2⟩
        exact ⟨its.length - (i + 1), by omega, F2, ρ2, rl2, sf2, hlt, rfl, e2⟩
      · obtain ⟨F2, x2, r2⟩ := I.yld i F' H' x H2 _ sf rl'.fh hd y
        rw [drop_get hd] at e'
        unfold forD at e'
        cases h2 : tgD g its[i] ρ' with
        | none => simp only [h2] at e'; cases e'
        | some ρ1 =>
          simp only [h2] at e'
          refine ⟨F0, H0, F2, ρ', _, ρ1, rl'.go x2, r2, h2, fun F3 H3 σ3 rl3 x3 => ?_⟩
          have s3 : Same F1 F3 := (sf.trans x2.ff).trans x3.ff
          cases h3 : mb ρ1 with
          | none => simp only [h3] at e'; cases e'
          | some o1 =>
            simp only [h3] at e'
            refine ⟨F0, H0, F3, ρ1, o1, rl3, h3, ?_⟩
            cases o1 with
            | nx ρ2 => exact fun F4 H4 σ4 rl4 s4 => ⟨F4, ρ2, rl4, s3.trans s4, e'⟩
            | ct ρ2 => exact fun F4 H4 σ4 rl4 s4 => ⟨F4, ρ2, rl4, s3.trans s4, e'⟩
            | bk ρ2 =>
              cases e'
              exact fun F4 H4 σ4 rl4 s4 => ok F4 H4 σ4 rl4 ((x1.ff.trans s3).trans s4)
            | rt d => cases e'; exact ok
            | rf d => cases e'; exact ok
            | rp d ds => cases e'; exact ok
            | rg d p r => cases e'; exact ok
            | rgf d p r => cases e'; exact ok
    · left
      have hieq : i = its.length := by omega
      subst hieq
      rw [List.drop_length] at e'
      have e' : some (Out.nx ρ') = some o := e'
      cases e'
      exact ⟨I.stop F' H' sf rl'.fh, ok F' H' σ' rl' (x1.ff.trans sf)⟩
end
end L2

set_option Elab.async false
set_option linter.all false
set_option maxRecDepth 100000
namespace L2
open PySem PySem.Spec PyProof.Rows

noncomputable def blkRo (src : List (Option Nat)) (ρ : Ro) : Ro := src.map fun o => o.bind fun i => match ρ[i]? with | some (some (.sh d)) => some (.sh d) | _ => none
noncomputable def compD (g : Tg) (c : MB) (elt : ME) : List D → Ro → List D → Option (List D)
  | [], _, acc => some acc
  | d :: ds, ρ, acc => match tgD g d ρ with
    | some ρ1 => match c ρ1 with
      | some true => match elt ρ1 with
        | some x => if acc.length < sizeLine then compD g c elt ds ρ1 (acc ++ [x]) else none
        | none => none
      | some false => compD g c elt ds ρ1 acc
      | none => none
    | none => none
@[irreducible] noncomputable def mcomp (src : List (Option Nat)) (mi : ML) (g : Tg) (c : MB) (elt : ME) : ML := fun ρ => (mi ρ).bind fun its => compD g c elt its (blkRo src ρ) []
noncomputable def NoOwn (ρ : Ro) : Prop := ∀ (i : Nat) ds, ρ[i]? ≠ some (some (.own ds)) ∧ ∀ p, ρ[i]? ≠ some (some (.ob p ds))
theorem NoOwn.set {ρ : Ro} (h : NoOwn ρ) (i : Nat) (d : D) : NoOwn (ρ.set i (some (.sh d))) := fun j ds => ⟨fun e => by
  by_cases hj : i = j
  · subst hj
    have hl : i < ρ.length := by
      rcases Nat.lt_or_ge i ρ.length with z | z
      · exact z
      · rw [List.getElem?_eq_none (by simpa using z)] at e; cases e
    rw [List.getElem?_set_self hl] at e; cases e
  · rw [List.getElem?_set_ne hj] at e; exact (h j ds).1 e, fun p e => (h j ds).2 p (set_ob e).2⟩
theorem NoOwn.all : ∀ (is : List Nat) (ds : List D) {ρ ρ' : Ro}, NoOwn ρ → setAll is ds ρ = some ρ' → NoOwn ρ'
  | [], [], ρ, ρ', h, e => by cases e; exact h
  | [], _ :: _, _, _, _, e => by cases e
  | _ :: _, [], _, _, _, e => by cases e
  | i :: is, d :: ds, ρ, ρ', h, e => NoOwn.all is ds (h.set i d) e
theorem NoOwn.tg {g : Tg} {d : D} {ρ ρ' : Ro} (h : NoOwn ρ) (e : tgD g d ρ = some ρ') : NoOwn ρ' := by
  cases g with
  | nm i => cases e; exact h.set i d
  | tp is => cases d <;> first | (cases e; done) | exact NoOwn.all is _ h e
  | nt i is =>
    cases d with
    | tup ds =>
      match ds, e with
      | [d, .tup ds], e => exact NoOwn.all is _ (h.set i d) e
    | _ => cases e
theorem Rl.blk {K : PySem.W.Frag} {F0 H0 F H : Hp} {σ : St} {ρ : Ro} (r : Rl K F0 H0 F H σ ρ) (src : List (Option Nat)) : Rl K F H F H (blk0 src σ) (blkRo src ρ) ∧ NoOwn (blkRo src ρ) := by
  have no1 : ∀ (i : Nat) x, (blkRo src ρ)[i]? = some (some x) → ∃ d, x = S.sh d := fun i x e => by
    unfold blkRo at e
    rw [List.getElem?_map] at e
    cases h : src[i]? with
    | none => rw [h] at e; cases e
    | some o =>
      rw [h] at e
      cases o with
      | none => cases e
      | some k =>
        simp only [Option.map_some, Option.bind_some] at e
        split at e
        · cases e; exact ⟨_, rfl⟩
        · cases e
  have no : NoOwn (blkRo src ρ) := fun i ds => ⟨fun e => (by obtain ⟨d, z⟩ := no1 i _ e; cases z), fun p e => (by obtain ⟨d, z⟩ := no1 i _ e; cases z)⟩
  refine ⟨⟨.refl r.fh, by unfold blk0 blkRo; simp, fun i d e => ?_, fun i ds e => absurd e (no i ds).1, fun i j p ds es _ e => absurd e (no i ds).1, fun i p ds e => absurd e ((no i ds).2 p), fun i j p ds es e => absurd e ((no i ds).2 p), fun i j p q ds es e => absurd e ((no i ds).2 p)⟩, no⟩
  unfold blkRo at e
  unfold blk0
  rw [List.getElem?_map] at e ⊢
  cases h : src[i]? with
  | none => rw [h] at e; cases e
  | some o =>
    rw [h] at e
    cases o with
    | none => cases e
    | some k =>
      simp only [Option.map_some, Option.bind_some] at e ⊢
      split at e
      · rename_i d' h'
        cases e
        obtain ⟨v, e1, e2⟩ := r.sh k _ h'
        exact ⟨v, by rw [e1]; rfl, e2⟩
      · cases e
theorem Rl.other {K : PySem.W.Frag} {F0 H0 F H : Hp} {σ : St} {ρ : Ro} (r : Rl K F0 H0 F H σ ρ) (no : NoOwn ρ) {p : Addr} {o : HO} (h0 : H0 p = none) (hF : F p = none) : Rl K F0 H0 F (upd H p o) σ ρ :=
  ⟨⟨r.ext.ff, r.ext.hh.put h0, r.ext.fh.put hF, r.ext.new, r.ext.nf⟩, r.len, r.sh, fun i ds e => absurd e (no i ds).1, r.inj, fun i p ds e => absurd e ((no i ds).2 p), r.obn, r.ob1⟩
section
variable {X : Cx} {a b c e : Expr} {ma mb : ME} {pos : Pos} {st : Stmt} {rest : List Stmt}
noncomputable def PTsd (X : Cx) (ifs : List Expr) (c : MB) : Prop := PTs X ifs (TC X.K c)
noncomputable def cyes : MB := fun _ => some true
theorem ptsd_nil : PTsd X [] cyes := fun pins s σ H Q I hpat => by
  obtain ⟨F0, H0, F, ρ, b, rl, e, q⟩ := hpat
  cases e
  exact pts_nil pins s σ H Q I (q F H (.refl rl.fh))
theorem ptsd_one {ca : MB} (h : PC' X c ca) : PTsd X [c] ca := pts_one h
theorem comp_tf {K : PySem.W.Frag} {src : List (Option Nat)} {mi : ML} {g : Tg} {c : MB} {elt : ME} {σ : St} {H : Hp} {Q : VK} (h : TF K (mcomp src mi g c elt) σ H Q) : tComp src (TId K mi) (TGd K g) (TC K c) (TD K elt) σ H Q := by
  obtain ⟨F0, H0, F, ρ, out, rl, e, q⟩ := h
  unfold mcomp at e
  cases h1 : mi ρ with
  | none => rw [h1] at e; cases e
  | some its =>
    rw [h1] at e
    have e : compD g c elt its (blkRo src ρ) [] = some out := e
    refine ⟨F0, H0, F, ρ, its, rl, h1, fun J F1 H1 x1 I => ?_⟩
    intro p hp
    obtain ⟨rb, no⟩ := (rl.go x1).blk src
    have hF1 : F1 p = none := x1.fh.free hp
    refine ⟨fun i m σ' H' => ∃ F' ρ' acc xs, Rl K F1 H1 F' H' σ' ρ' ∧ NoOwn ρ' ∧ H' p = some (.lst xs) ∧ F' p = none ∧ Reps K F' xs acc ∧ i ≤ its.length ∧ m = its.length - i ∧ compD g c elt (its.drop i) ρ' acc = some out,
      ⟨_, F1, blkRo src ρ, [], [], rb.other no hp hF1, no, upd_same, hF1, .nil, Nat.zero_le _, rfl, e⟩, ?_⟩
    rintro i m σ' H' ⟨F', ρ', acc, xs, rl', no', hH', hF', ra, hi', rfl, e'⟩
    by_cases hlt : i < its.length
    · right
      have hd := List.getElem?_eq_getElem hlt
      refine ⟨I.go i F' H' rl'.ext.ff rl'.fh hlt, fun σ2 H2 => ∃ F2 ρ2 acc2 xs2, Rl K F1 H1 F2 H2 σ2 ρ2 ∧ NoOwn ρ2 ∧ H2 p = some (.lst xs2) ∧ F2 p = none ∧ Reps K F2 xs2 acc2 ∧ compD g c elt (its.drop (i + 1)) ρ2 acc2 = some out, ?_, fun x H2 y => ?_⟩
      · rintro σ2 H2 ⟨F2, ρ2, acc2, xs2, b1, b2, b3, b4, b5, b6⟩
        exact ⟨its.length - (i + 1), by omega, F2, ρ2, acc2, xs2, b1, b2, b3, b4, b5, hlt, rfl, b6⟩
      · obtain ⟨F2, x2, r2⟩ := I.yld i F' H' x H2 _ rl'.ext.ff rl'.fh hd y
        rw [drop_get hd] at e'
        unfold compD at e'
        have pn : ∀ {F3 H3 : Hp}, Ext F' H' F3 H3 → F3 p = none := fun {F3 H3} x3 => by
          cases qq : F3 p with
          | none => rfl
          | some o => have := x3.new p hF' (by rw [qq]; simp); rw [this] at hH'; cases hH'
        cases h2 : tgD g its[i] ρ' with
        | none => simp only [h2] at e'; cases e'
        | some ρ1 =>
          simp only [h2] at e'
          refine ⟨F1, H1, F2, ρ', _, ρ1, rl'.go x2, r2, h2, fun F3 H3 σ3 rl3 x3 => ?_⟩
          have no1 := no'.tg h2
          have x23 := x2.trans x3
          cases h3 : c ρ1 with
          | none => simp only [h3] at e'; cases e'
          | some k =>
            refine ⟨F1, H1, F3, ρ1, k, rl3, h3, fun F4 H4 x4 => ?_⟩
            have x24 := x23.trans x4
            cases k with
            | false =>
              simp only [h3] at e'
              exact iteF ⟨F4, ρ1, acc, xs, rl3.go x4, no1, x24.hh _ _ hH', pn x24, ra.mono x24.ff, e'⟩
            | true =>
              simp only [h3] at e'
              refine iteT ?_
              cases h4 : elt ρ1 with
              | none => simp only [h4] at e'; cases e'
              | some d =>
                simp only [h4] at e'
                split at e'
                · rename_i hz
                  refine ⟨F1, H1, F4, ρ1, d, rl3.go x4, h4, fun v F5 H5 x5 r5 => ?_⟩
                  have x25 := x24.trans x5
                  refine ⟨xs, x25.hh _ _ hH', by rw [ra.length]; exact hz, F5, ρ1, acc ++ [d], xs ++ [v], ((rl3.go x4).go x5).other no1 hp (pn x25), no1, upd_same, pn x25, (ra.mono x25.ff).append (.cons r5 .nil), e'⟩
                · cases e'
    · left
      have hieq : i = its.length := by omega
      subst hieq
      rw [List.drop_length] at e'
      have e' : some acc = some out := e'
      cases e'
      exact ⟨I.stop F' H' rl'.ext.ff rl'.fh, q p xs F' H' (x1.trans rl'.ext) (x1.hh.free hp) hF' hH' ra⟩
theorem pf_comp {sc : Scope} {N : List Str} {src : List (Option Nat)} {tg elt iter : Expr} {ifs : List Expr} {mi : ML} {g : Tg} {cc : MB} {me : ME} (B : Blk X sc N src) (hc : X.calm = true)
    (hi : PId X tg iter mi) (hg : ∀ C fp s H, PGd (blkCx X sc C N fp s H) tg g) (ht : ∀ C fp s H, PTsd (blkCx X sc C N fp s H) ifs cc) (he : ∀ C fp s H, PD (blkCx X sc C N fp s H) elt me)
    (hs : ∀ x, foldedSetIterable iter X.env x = pure x := by intro _; rfl) :
    PF X (.ListComp elt [⟨tg, iter, ifs, 0⟩] sc pos) (mcomp src mi g cc me) := (pe_comp (g := TGd X.K g) (tc := TC X.K cc) (te := TD X.K me) B hc hi (fun C fp s H => hg C fp s H) (fun C fp s H => ht C fp s H) (fun C fp s H => he C fp s H) hs).imp fun _ _ _ h => comp_tf h
theorem psd_setC {i : Nat} {src : List (Option Nat)} {mi : ML} {g : Tg} {cc : MB} {me : ME} (h : PS X st (tAsg (tComp src (TId X.K mi) (TGd X.K g) (TC X.K cc) (TD X.K me)) (gName i))) : PSd X st (msetF i (mcomp src mi g cc me)) := asg_f h fun _ _ _ q => comp_tf q
noncomputable def whileD (c : MB) (body : MS) : Nat → MS
  | 0, _ => none
  | n + 1, ρ => match c ρ with
    | some true => match body ρ with
      | some (.nx ρ2) => whileD c body n ρ2
      | some (.ct ρ2) => whileD c body n ρ2
      | some (.bk ρ2) => some (.nx ρ2)
      | o => o
    | some false => some (.nx ρ)
    | none => none
theorem psd_while {body : List Stmt} {ca : MB} {mb : MS} (n : Nat) (hp : PassesOwn (model X.prog X.w) X.A X.env X.xe) (hc : PC' X c ca) (hb : PSsd X body mb) : PSd X (.While c body [] pos) (whileD ca mb n) := (ps_while hp hc hb).imp fun Dn σ H hpat => by
  obtain ⟨F0, H0, F, ρ, o, rl, e, ok⟩ := hpat
  refine ⟨fun m σ' H' => ∃ F' ρ', Rl X.K F0 H0 F' H' σ' ρ' ∧ Same F F' ∧ whileD ca mb m ρ' = some o, ⟨n, F, ρ, rl, Same.refl _, e⟩, ?_⟩
  rintro m σ' H' ⟨F', ρ', rl', sf, e'⟩
  cases m with
  | zero => cases e'
  | succ m =>
    unfold whileD at e'
    cases h1 : ca ρ' with
    | none => simp only [h1] at e'; cases e'
    | some k =>
      refine ⟨F0, H0, F', ρ', k, rl', h1, fun F1 H1 x1 => ?_⟩
      cases k with
      | false =>
        simp only [h1] at e'
        cases e'
        exact iteF (ok F1 H1 σ' (rl'.go x1) (sf.trans x1.ff))
      | true =>
        simp only [h1] at e'
        refine iteT ⟨fun σ2 H2 => ∃ F2 ρ2, Rl X.K F0 H0 F2 H2 σ2 ρ2 ∧ Same F F2 ∧ whileD ca mb m ρ2 = some o, fun σ2 H2 ⟨F2, ρ2, a1, a2, a3⟩ => ⟨m, Nat.lt_succ_self m, F2, ρ2, a1, a2, a3⟩, ?_⟩
        cases h2 : mb ρ' with
        | none => simp only [h2] at e'; cases e'
        | some o1 =>
          simp only [h2] at e'
          refine ⟨F0, H0, F1, ρ', o1, rl'.go x1, h2, ?_⟩
          have s1 := sf.trans x1.ff
          cases o1 with
          | nx ρ2 => exact fun F4 H4 σ4 rl4 s4 => ⟨F4, ρ2, rl4, s1.trans s4, e'⟩
          | ct ρ2 => exact fun F4 H4 σ4 rl4 s4 => ⟨F4, ρ2, rl4, s1.trans s4, e'⟩
          | bk ρ2 => cases e'; exact fun F4 H4 σ4 rl4 s4 => ok F4 H4 σ4 rl4 (s1.trans s4)
          | rt d => cases e'; exact ok
          | rf d => cases e'; exact ok
          | rp d ds => cases e'; exact ok
          | rg d p r => cases e'; exact ok
          | rgf d p r => cases e'; exact ok

inductive Rt where
  | sh (d : D) | fr (ds : List D) | pr (d : D) (ds : List D)
noncomputable abbrev MF := List D → Option Rt
noncomputable def okT (K : PySem.W.Frag) (F H : Hp) (Q : VK) : Rt → Prop
  | .sh d => ∀ v F' H', Ext F H F' H' → Rep K F' v d → Q v H'
  | .fr ds => ∀ p xs F' H', Ext F H F' H' → H p = none → F' p = none → H' p = some (.lst xs) → Reps K F' xs ds → Q (.ref p) H'
  | .pr d ds => ∀ t v p xs F' H', Ext F H F' H' → H t = none → H p = none → t ≠ p → F' t = none → F' p = none → H' t = some (.tup [v, .ref p]) → H' p = some (.lst xs) → Rep K F' v d → Reps K F' xs ds → Q (.ref t) H'
noncomputable def spR (K : PySem.W.Frag) (n : Nat) (m : MF) : Sp := fun vs H Q _ => vs.length = n ∧ ∃ F ds r, Same F H ∧ Reps K F vs ds ∧ m ds = some r ∧ okT K F H Q r
noncomputable def startS (n : Nat) (ds : List D) : Ro := ds.map (fun d => some (.sh d)) ++ List.replicate (n - ds.length) none
noncomputable def runB (n : Nat) (m : MS) : MF := fun ds => match m (startS n ds) with
  | some (.nx _) => some (.sh .non)
  | some (.rt d) => some (.sh d)
  | some (.rf es) => some (.fr es)
  | some (.rp d es) => some (.pr d es)
  | _ => none
theorem rl_start {K : PySem.W.Frag} {F H : Hp} {N : List Str} {vs : List V} {ds : List D} (s : Same F H) (r : Reps K F vs ds) : Rl K F H F H (start N vs) (startS N.length ds) := by
  have get : ∀ (i : Nat) x, (startS N.length ds)[i]? = some (some x) → ∃ d, x = S.sh d ∧ ds[i]? = some d := fun i x e => by
    unfold startS at e
    by_cases hi : i < ds.length
    · rw [List.getElem?_append_left (by simpa using hi), List.getElem?_map] at e
      cases q : ds[i]? with
      | none => rw [q] at e; cases e
      | some d => rw [q] at e; cases e; exact ⟨d, rfl, rfl⟩
    · rw [List.getElem?_append_right (by simpa using hi), List.getElem?_replicate] at e
      split at e <;> cases e
  refine ⟨.refl s, ?_, fun i d e => ?_, fun i ds e => ?_, fun i j p ds es _ e => ?_, fun i p ds e => ?_, fun i j p ds es e => ?_, fun i j p q ds es e => ?_⟩
  · unfold start startS; simp [r.length]
  · obtain ⟨d', e1, e2⟩ := get i _ e
    cases e1
    obtain ⟨v, e3, e4⟩ := r.get e2
    have hl : i < vs.length := (List.getElem?_eq_some_iff.mp e3).1
    refine ⟨v, ?_, e4⟩
    unfold start
    rw [List.getElem?_append_left (by simpa using hl), List.getElem?_map, e3]; rfl
  · obtain ⟨d', e1, _⟩ := get i _ e
    cases e1
  · obtain ⟨d', e1, _⟩ := get i _ e
    cases e1
  · obtain ⟨d', e1, _⟩ := get i _ e
    cases e1
  · obtain ⟨d', e1, _⟩ := get i _ e
    cases e1
  · obtain ⟨d', e1, _⟩ := get i _ e
    cases e1
theorem Fun.okD {P : Program} {w : World} {K : PySem.W.Frag} {mg : Str → Option Value} {base : Heap} {x qual : Str} {st : Stmt} {f : Addr} {fd : FuncData} {N ps : List Str} {k : Nat} {m : MS} (Fn : Fun K x qual st f fd) (Sc : FnScope N ps (defScope st))
    (hbody : ∀ (cdv : Value) (A : Around) (outer : List Env) (s : Shared) (H : Hp) (E : XK), Room k (A.deeper (envOfC qual (defScope st) s.heap.objs.size f cdv)) → PSsd (cxOf CX0 P w K mg base N qual (defScope st) f cdv A outer s H E).nox (defBody st) m) :
    FnOk P w K mg base CX0 (k + 1) f fd ps (spR K ps.length (runB N.length m)) := by
  refine Fn.ok Sc (fun vs H Q E h => h.1) fun cdv A outer s H vs Q E hr h => ?_
  obtain ⟨hl, F, ds, r, sf, rs, e, ok⟩ := h
  unfold runB at e
  cases h1 : m (startS N.length ds) with
  | none => rw [h1] at e; cases e
  | some o =>
    rw [h1] at e
    refine ⟨_, hbody cdv A outer s H E hr, F, H, F, startS N.length ds, o, rl_start sf rs, h1, ?_⟩
    cases o with
    | nx ρ => cases e; exact fun F' H' σ' rl _ => ok .non F' H' rl.ext .non
    | rt d => cases e; exact ok
    | rf es => cases e; exact ok
    | rp d es => cases e; exact ok
    | rg d p r => cases e
    | rgf d p r => cases e
    | bk ρ => cases e
    | ct ρ => cases e
@[irreducible] noncomputable def mcall (f : MF) (m : ML) : ME := fun ρ => (m ρ).bind fun ds => match f ds with | some (.sh d) => some d | some (.fr es) => some (.lst es) | some (.pr d es) => some (.tup [d, .lst es]) | none => none
@[irreducible] noncomputable def mcallF (f : MF) (m : ML) : ML := fun ρ => (m ρ).bind fun ds => match f ds with | some (.fr es) => some es | _ => none
variable {E : XK} {es : List Expr} {mf : MF} {m : ML}
theorem pd_call {n : Nat} (h : ∀ t, PA X es t → PE X e (tCall (spR X.K n mf) [] E t)) (hl : es.length = n) (ha : PAs X es m) (hm : ∀ ρ ds, m ρ = some ds → ds.length = es.length) : PD X e (mcall mf m) := (h _ ha).imp fun σ H Q hpat => by
  obtain ⟨F0, H0, F, ρ, d, rl, e, q⟩ := hpat
  unfold mcall at e
  cases h1 : m ρ with
  | none => rw [h1] at e; cases e
  | some ds =>
    rw [h1] at e
    refine ⟨F0, H0, F, ρ, ds, rl, h1, fun vs F1 H1 x1 r1 => ?_⟩
    dsimp only [Option.bind] at e
    show spR X.K n mf (vs ++ []) H1 Q E
    rw [List.append_nil]
    refine ⟨by rw [r1.length, hm ρ ds h1, hl], F1, ds, ?_⟩
    split at e
    · rename_i d' h2
      cases e
      exact ⟨_, x1.fh, r1, h2, fun v F2 H2 x2 r2 => q v F2 H2 (x1.trans x2) r2⟩
    · rename_i es' h2
      cases e
      exact ⟨_, x1.fh, r1, h2, fun p xs F2 H2 x2 hp hF hH r2 => q _ (upd F2 p (.lst xs)) H2 (x1.trans (x2.freeze hF hp hH)) (.lst (SqL.of upd_same) (r2.mono ((Same.refl F2).put hF)))⟩
    · rename_i d' es' h2
      cases e
      refine ⟨_, x1.fh, r1, h2, fun t v p xs F2 H2 x2 ht hp hne hFt hFp hHt hHp rv rs => ?_⟩
      have x3 := x2.freeze hFp hp hHp
      have hFt' : upd F2 p (.lst xs) t = none := by rw [upd_ne hne]; exact hFt
      have s2 : Same F2 (upd F2 p (.lst xs)) := (Same.refl F2).put hFp
      have s3 : Same (upd F2 p (.lst xs)) (upd (upd F2 p (.lst xs)) t (.tup [v, .ref p])) := (Same.refl _).put hFt'
      exact q _ (upd (upd F2 p (.lst xs)) t (.tup [v, .ref p])) H2 (x1.trans (x3.freeze hFt' ht hHt)) (.tup (SqT.of upd_same) (.cons (rv.mono (s2.trans s3)) (.cons (.lst (SqL.of (by rw [upd_ne (Ne.symm hne)]; exact upd_same)) (rs.mono (s2.trans s3))) .nil)))
    · cases e
theorem anil_len (ρ : Ro) (ds : List D) (h : anil ρ = some ds) : ds.length = 0 := by cases h; rfl
theorem acons_len {x : ME} {r : ML} {n : Nat} (hr : ∀ ρ ds, r ρ = some ds → ds.length = n) (ρ : Ro) (ds : List D) (h : acons x r ρ = some ds) : ds.length = n + 1 := by
  obtain ⟨d, es, _, h2, rfl⟩ := acons_some h
  rw [List.length_cons, hr ρ es h2]
end
end L2

set_option Elab.async false
set_option linter.all false
set_option maxRecDepth 100000
namespace L2
open PySem PySem.Spec PyProof.Rows
section
variable {X : Cx} {a b c e : Expr} {ma mb : ME} {pos : Pos}
noncomputable def bl2 (g : Bool → Bool → Bool) : D → D → Option D
  | .bl i, .bl j => some (.bl (g i j))
  | _, _ => none
noncomputable def rRng1 : List V → Hp → VK → Prop := fun vs H Q => ∃ j : Int, vs = [.int j] ∧ ∀ p, H p = none → Q (.ref p) (upd H p (.rng 0 j))
theorem call_rng1 : CallR X (.type "range") rRng1 := by
  intro pins s σ H xs us Q I r h
  obtain ⟨j, rfl, q⟩ := h
  obtain ⟨u, rfl, t, rfl⟩ := vals1 r
  refine call_range_1 ⟨.ref s.heap.objs.size, _, I.laid (o := .rng 0 j) (fun b o e => Heap.get?_push_of_some _ e) (Nat.le_refl _) ⟨_, _, _, Heap.get?_push_size _ rfl⟩, rfl, q _ I.fresh⟩
theorem reps_ints {K : PySem.W.Frag} {F : Hp} : ∀ ns : List Int, Reps K F (ns.map V.int) (ns.map D.int)
  | [] => .nil
  | n :: ns => .cons (.int n) (reps_ints ns)
theorem sp_law {K : PySem.W.Frag} {m : MF} (h : ∀ ns : List Int, ns.length ≤ 63 → m [.lst (ns.map .int)] = some (.sh (.bl true))) (H : Hp) (a : Addr) (ns : List Int) (hl : ns.length ≤ 63) (hS : SqL K H a (ns.map V.int)) (E : XK) :
    spR K 1 m [.ref a] H (fun v _ => v = .bl true) E :=
  ⟨rfl, H, _, _, Same.refl H, .cons (.lst hS (reps_ints ns)) .nil, h ns hl, fun v F' H' _ r => by cases r; rfl⟩
end
end L2
namespace L2
open PySem PySem.Spec PyProof.Rows
noncomputable def blkOk (fsc : Scope) (fN : List Str) (sc : Scope) (N : List Str) (src : List (Option Nat)) : Bool :=
  (sc.kind == .function) && sc.names.all (fun y => y.2 != .cell) && sc.names.all (fun y => y.2 != .local || sc.names.lookup y.1 == some .local)
    && sc.names.all (fun y => y.2 != .free || (fsc.names.lookup y.1 == some .cell || fsc.names.lookup y.1 == some .free)) && (src.length == N.length)
    && (List.range src.length).all fun j => match src[j]? with
      | some (some i) => match N[j]? with
        | some x => fN[i]? == some x && sc.names.lookup x == some .free
        | none => false
      | _ => true
theorem blk_of {X : Cx} {sc : Scope} {N : List Str} {src : List (Option Nat)} (fsc : Scope) (fN : List Str) (h1 : X.env.scope = fsc) (h2 : X.N = fN) (h : blkOk fsc fN sc N src = true) : Blk X sc N src := by
  unfold blkOk at h
  simp only [Bool.and_eq_true, List.all_eq_true, beq_iff_eq, Bool.or_eq_true, bne_iff_ne, ne_eq] at h
  obtain ⟨⟨⟨⟨⟨a1, a2⟩, a3⟩, a4⟩, a5⟩, a6⟩ := h
  refine ⟨a1, a2, fun y hy hk => ?_, fun y hy hk => ?_, fun j i e => ?_, a5⟩
  · rcases a3 y hy with z | z
    · exact absurd hk z
    · exact z
  · have k : ∀ x, X.env.kindOf x = fsc.names.lookup x := fun x => by rw [← h1]; rfl
    rw [k]
    rcases a4 y hy with z | z
    · exact absurd hk z
    · exact z
  · have hj : j < src.length := (List.getElem?_eq_some_iff.mp e).1
    have := a6 j (List.mem_range.mpr hj)
    rw [e] at this
    simp only at this
    cases hx : N[j]? with
    | none => rw [hx] at this; cases this
    | some x =>
      rw [hx] at this
      simp only [Bool.and_eq_true, beq_iff_eq] at this
      exact ⟨x, rfl, by rw [h2]; exact this.1, this.2⟩
end L2
namespace L2
open PySem PySem.Spec PyProof.Rows
theorem pf_sl {X : Cx} {a : Expr} {ml : ML} {lo hi : Option Expr} {l h : MO} {p2 pos : Pos} (ha : PB X a ml) (hl : POs X lo l) (hh : POs X hi h) : PF X (.Subscript a (.Slice lo hi none p2) pos) (mcut ml l h) := pf_cut ha hl hh (pe_slice sl_list ha hl hh)
end L2

set_option Elab.async false
set_option linter.all false
set_option maxRecDepth 100000
namespace L2
open PySem PySem.Spec PyProof.Rows
noncomputable def zipE (f : D → D → Option Bool) : List D → List D → Option Bool
  | d :: ds, e :: es => (f d e).bind fun a => (zipE f ds es).bind fun b => some (a && b)
  | _, _ => some true
noncomputable def eqF : Nat → D → D → Option Bool
  | 0, _, _ => none
  | n + 1, .lst ds, .lst es => if ds.length = es.length then zipE (eqF n) ds es else some false
  | n + 1, .tup ds, .tup es => (zipE (eqF n) ds es).map fun b => b && ds.length == es.length
  | _ + 1, d, e => eqS d e
theorem zipE_all {f : D → D → Option Bool} : ∀ {ds es : List D} {k : Bool}, zipE f ds es = some k → ∃ g : Nat → Bool, (∀ j d e, ds[j]? = some d → es[j]? = some e → f d e = some (g j)) ∧ k = (List.range (min ds.length es.length)).all g
  | [], es, k, h => by
    have h : some true = some k := by simpa [zipE] using h
    cases h
    exact ⟨fun _ => true, by simp, by simp⟩
  | _ :: _, [], k, h => by
    have h : some true = some k := by simpa [zipE] using h
    cases h
    exact ⟨fun _ => true, by simp, by simp⟩
  | d :: ds, e :: es, k, h => by
    unfold zipE at h
    cases h1 : f d e with
    | none => rw [h1] at h; cases h
    | some a =>
      rw [h1] at h
      cases h2 : zipE f ds es with
      | none => rw [h2] at h; cases h
      | some b =>
        rw [h2] at h
        have h : some (a && b) = some k := h
        cases h
        obtain ⟨g, q1, q2⟩ := zipE_all h2
        refine ⟨fun j => match j with | 0 => a | j + 1 => g j, ?_, ?_⟩
        · intro j d' e' hd he
          cases j with
          | zero => simp at hd he; subst hd he; exact h1
          | succ j => exact q1 j d' e' (by simpa using hd) (by simpa using he)
        · rw [q2, List.length_cons, List.length_cons, Nat.add_min_add_right, List.range_succ_eq_map, List.all_cons, List.all_map]
          rfl
theorem zipE_refl {f : D → D → Option Bool} (hf : ∀ d k, f d d = some k → k = true) : ∀ {ds : List D} {k : Bool}, zipE f ds ds = some k → k = true
  | [], k, h => by simp [zipE] at h; exact h
  | d :: ds, k, h => by
    unfold zipE at h
    cases h1 : f d d with
    | none => rw [h1] at h; cases h
    | some a =>
      rw [h1] at h
      cases h2 : zipE f ds ds with
      | none => rw [h2] at h; cases h
      | some b =>
        rw [h2] at h
        have h : some (a && b) = some k := h
        cases h
        rw [hf d a h1, zipE_refl hf h2]; rfl
theorem eqF_refl : ∀ (n : Nat) (d : D) (k : Bool), eqF n d d = some k → k = true
  | 0, _, _, h => by simp [eqF] at h
  | n + 1, .lst ds, k, h => by
    simp only [eqF, if_true] at h
    exact zipE_refl (eqF_refl n) h
  | n + 1, .tup ds, k, h => by
    simp only [eqF] at h
    cases h1 : zipE (eqF n) ds ds with
    | none => rw [h1] at h; cases h
    | some b =>
      rw [h1] at h
      have := zipE_refl (eqF_refl n) h1
      subst this
      simp at h; exact h
  | n + 1, .non, k, h => by simp [eqF, eqS] at h; exact h
  | n + 1, .bl b, k, h => by simp [eqF, eqS] at h; exact h
  | n + 1, .int b, k, h => by simp [eqF, eqS] at h; exact h
  | n + 1, .str b, k, h => by simp [eqF, eqS] at h; exact h
  | n + 1, .exc b, k, h => by simp [eqF, eqS] at h
section
variable {X : Cx} {pins : List (Addr × Obj)} {σ : St} {H : Hp} {s : Shared}
theorem Inv.no_both (I : Inv X pins σ H s) {a : Addr} {xs ys : List V} (h1 : SqL X.K H a xs) (h2 : SqT X.K H a ys) : False := by
  obtain ⟨its, _, ⟨o, n, e, hc, _⟩, _⟩ := I.list h1
  obtain ⟨its', _, ⟨o', e', hc', _⟩, _⟩ := I.tuple h2
  rw [e] at e'; cases e'
  rw [hc] at hc'
  injection hc' with q
  exact absurd q (by decide)
theorem Inv.xat (I : Inv X pins σ H s) {a C : Addr} (h : H a = some (.ext (XAt a C))) : XAt a C s.heap := (show ObjOk X.prog X.w H s.heap a (.ext (XAt a C)) from I.hok a _ h).1
theorem Inv.no_xl (I : Inv X pins σ H s) {a C : Addr} {xs : List V} (h1 : SqL X.K H a xs) (h2 : H a = some (.ext (XAt a C))) : False := by
  obtain ⟨its, _, ⟨o, n, e, hc, _⟩, _⟩ := I.list h1
  obtain ⟨o', vs, e', hc', _⟩ := I.xat h2
  rw [e] at e'; cases e'
  rw [hc] at hc'; cases hc'
theorem Inv.no_xt (I : Inv X pins σ H s) {a C : Addr} {xs : List V} (h1 : SqT X.K H a xs) (h2 : H a = some (.ext (XAt a C))) : False := by
  obtain ⟨its, _, ⟨o, e, hc, _⟩, _⟩ := I.tuple h1
  obtain ⟨o', vs, e', hc', _⟩ := I.xat h2
  rw [e] at e'; cases e'
  rw [hc] at hc'; cases hc'
mutual
theorem Rep.inj (I : Inv X pins σ H s) : ∀ {v : V} {d e : D}, Rep X.K H v d → Rep X.K H v e → d = e
  | _, _, _, .non, .non => rfl
  | _, _, _, .bl b, .bl _ => rfl
  | _, _, _, .int i, .int _ => rfl
  | _, _, _, .str x, .str _ => rfl
  | _, _, _, .lst h r, .lst h' r' => by
    have e := I.list_inj h h'
    subst e
    rw [Reps.inj I r r']
  | _, _, _, .tup h r, .tup h' r' => by
    have e := I.tuple_inj h h'
    subst e
    rw [Reps.inj I r r']
  | _, _, _, .lst h _, .tup h' _ => (I.no_both h h').elim
  | _, _, _, .tup h _, .lst h' _ => (I.no_both h' h).elim
  | _, _, _, .lst h _, .exc _ h' => (I.no_xl h h').elim
  | _, _, _, .tup h _, .exc _ h' => (I.no_xt h h').elim
  | _, _, _, .exc _ h', .lst h _ => (I.no_xl h h').elim
  | _, _, _, .exc _ h', .tup h _ => (I.no_xt h h').elim
  | _, _, _, .exc n h, .exc n' h' => by
    obtain ⟨o, vs, e, hc, _⟩ := I.xat h
    obtain ⟨o', vs', e', hc', _⟩ := I.xat h'
    rw [e] at e'; cases e'
    rw [hc] at hc'; cases hc'
    have q := n.2.symm.trans n'.2
    cases q; rfl
theorem Reps.inj (I : Inv X pins σ H s) : ∀ {vs : List V} {ds es : List D}, Reps X.K H vs ds → Reps X.K H vs es → ds = es
  | _, _, _, .nil, .nil => rfl
  | _, _, _, .cons h r, .cons h' r' => by rw [Rep.inj I h h', Reps.inj I r r']
end
open PySem.SeqAt in
theorem eq_at (I : Inv X pins σ H s) : ∀ (n : Nat) {A : Around} {x y : V} {v u : Value} {d e : D} {k : Bool}, A.units + n < cLine → Rep X.K H x d → Rep X.K H y e → RelV x v → RelV y u → eqF n d e = some k → EqAt A s v u k ∧ RcAt A s v u k ∧ RcNeAt A s v u (!k)
  | 0, A, x, y, v, u, d, e, k, hu, r1, r2, q1, q2, h => by simp [eqF] at h
  | n + 1, A, x, y, v, u, d, e, k, hu, r1, r2, q1, q2, h => by
    have hu0 : A.units < cLine := by omega
    have hu1 : A.in1.units + n < cLine := by show A.units + 1 + n < cLine; omega
    cases r1 with
    | non =>
      cases q1
      cases r2 with
      | non => cases q2; cases h; exact ⟨EqAt.same _, .none_none, .none_none⟩
      | bl b => cases q2; cases h; exact ⟨.none_bool _, .none_bool _, .none_bool _⟩
      | int b => obtain ⟨t, rfl⟩ := q2; cases h; exact ⟨.none_int _ _, .none_int _ _, .none_int _ _⟩
      | str b => obtain ⟨t, rfl⟩ := q2; cases h; exact ⟨.none_str _ _, .none_str _ _, .none_str _ _⟩
      | lst _ _ => cases h
      | tup _ _ => cases h
      | exc _ _ => cases h
    | bl i =>
      cases q1
      cases r2 with
      | non => cases q2; cases h; exact ⟨.bool_none _, .bool_none _, .bool_none _⟩
      | bl b => cases q2; cases h; exact ⟨.bool_bool _ _, .bool_bool _ _, .bool_bool _ _⟩
      | int b => cases h
      | str b => obtain ⟨t, rfl⟩ := q2; cases h; exact ⟨.bool_str _ _ _, .bool_str _ _ _, .bool_str _ _ _⟩
      | lst _ _ => cases h
      | tup _ _ => cases h
      | exc _ _ => cases h
    | int i =>
      obtain ⟨t0, rfl⟩ := q1
      cases r2 with
      | non => cases q2; cases h; exact ⟨.int_none _ _, .int_none _ _, .int_none _ _⟩
      | bl b => cases h
      | int b => obtain ⟨t, rfl⟩ := q2; cases h; exact ⟨.int_int _ _ _ _, .int_int _ _ _ _, .int_int _ _ _ _⟩
      | str b => obtain ⟨t, rfl⟩ := q2; cases h; exact ⟨.int_str _ _ _ _, .int_str _ _ _ _, .int_str _ _ _ _⟩
      | lst _ _ => cases h
      | tup _ _ => cases h
      | exc _ _ => cases h
    | str i =>
      obtain ⟨t0, rfl⟩ := q1
      cases r2 with
      | non => cases q2; cases h; exact ⟨.str_none _ _, .str_none _ _, .str_none _ _⟩
      | bl b => cases q2; cases h; exact ⟨.str_bool _ _ _, .str_bool _ _ _, .str_bool _ _ _⟩
      | int b => obtain ⟨t, rfl⟩ := q2; cases h; exact ⟨.str_int _ _ _ _, .str_int _ _ _ _, .str_int _ _ _ _⟩
      | str b => obtain ⟨t, rfl⟩ := q2; cases h; exact ⟨.str_str _ _ _ _, .str_str _ _ _ _, .str_str _ _ _ _⟩
      | lst _ _ => cases h
      | tup _ _ => cases h
      | exc _ _ => cases h
    | @lst a xs ds sq rs =>
      cases q1
      cases r2 with
      | @lst b ys es sq2 rs2 =>
        cases q2
        obtain ⟨its, vr, ⟨o, m, ho, hc, _, hd⟩, _⟩ := I.list sq
        obtain ⟨its2, vr2, ⟨o2, m2, ho2, hc2, _, hd2⟩, _⟩ := I.list sq2
        have L1 : s.heap.IsList a its.toArray := ⟨o, ho, hc, m, hd⟩
        have L2 : s.heap.IsList b its2.toArray := ⟨o2, ho2, hc2, m2, hd2⟩
        have z1 : its.length = ds.length := by rw [← vr.length, rs.length]
        have z2 : its2.length = es.length := by rw [← vr2.length, rs2.length]
        have main : RcAt A s (.ref a) (.ref b) k ∧ RcNeAt A s (.ref a) (.ref b) (!k) := by
          simp only [eqF] at h
          split at h
          · rename_i hl
            obtain ⟨g, g1, g2⟩ := zipE_all h
            have he : ∀ j (h1 : j < its.toArray.size) (h2 : j < its2.toArray.size), EqAt A.in1 s its.toArray[j] its2.toArray[j] (g j) := by
              intro j h1 h2
              simp only [List.size_toArray] at h1 h2
              obtain ⟨d', hd'⟩ : ∃ d', ds[j]? = some d' := ⟨_, List.getElem?_eq_getElem (by omega)⟩
              obtain ⟨e', he'⟩ : ∃ e', es[j]? = some e' := ⟨_, List.getElem?_eq_getElem (by omega)⟩
              obtain ⟨v', hv', rv'⟩ := rs.get hd'
              obtain ⟨u', hu', ru'⟩ := rs2.get he'
              obtain ⟨p, hp, rp⟩ := vr.get hv'
              obtain ⟨p2, hp2, rp2⟩ := vr2.get hu'
              have e1 : its.toArray[j] = p := by
                rw [List.getElem?_eq_getElem h1] at hp
                simpa using hp
              have e2 : its2.toArray[j] = p2 := by
                rw [List.getElem?_eq_getElem h2] at hp2
                simpa using hp2
              rw [e1, e2]
              exact (eq_at I n hu1 rv' ru' rp rp2 (g1 j d' e' hd' he')).1
            have hz : its.toArray.size = its2.toArray.size := by simp only [List.size_toArray]; omega
            have hk : k = (List.range its.toArray.size).all g := by
              rw [g2]; simp only [List.size_toArray]; rw [show min ds.length es.length = its.length by omega]
            rw [hk]
            exact ⟨.lists L1 L2 hz hu0 he, .lists L1 L2 hz hu0 he⟩
          · rename_i hl
            cases h
            have hz : (its.toArray.size != its2.toArray.size) = true := by simp only [List.size_toArray]; exact bne_iff_ne.mpr (by omega)
            exact ⟨.lists_lengths L1 L2 hz hu0, .lists_lengths L1 L2 hz hu0⟩
        refine ⟨?_, main⟩
        by_cases hab : a = b
        · subst hab
          have := Rep.inj I (.lst sq rs) (.lst sq2 rs2)
          rw [this] at h
          rw [eqF_refl _ _ _ h]
          exact EqAt.same _
        · exact .of_refs hab main.1
      | non => cases h
      | bl _ => cases h
      | int _ => cases h
      | str _ => cases h
      | tup _ _ => cases h
      | exc _ _ => cases h
    | @tup a xs ds sq rs =>
      cases q1
      cases r2 with
      | @tup b ys es sq2 rs2 =>
        cases q2
        obtain ⟨its, vr, ⟨o, ho, hc, m, hd⟩, _⟩ := I.tuple sq
        obtain ⟨its2, vr2, ⟨o2, ho2, hc2, m2, hd2⟩, _⟩ := I.tuple sq2
        have L1 : s.heap.IsTuple a its.toArray := ⟨o, ho, hc, m, hd⟩
        have L2 : s.heap.IsTuple b its2.toArray := ⟨o2, ho2, hc2, m2, hd2⟩
        have z1 : its.length = ds.length := by rw [← vr.length, rs.length]
        have z2 : its2.length = es.length := by rw [← vr2.length, rs2.length]
        have main : RcAt A s (.ref a) (.ref b) k ∧ RcNeAt A s (.ref a) (.ref b) (!k) := by
          simp only [eqF] at h
          cases hz : zipE (eqF n) ds es with
          | none => rw [hz] at h; cases h
          | some kk =>
            rw [hz] at h
            have h : some (kk && ds.length == es.length) = some k := h
            cases h
            obtain ⟨g, g1, g2⟩ := zipE_all hz
            have he : ∀ j (h1 : j < its.toArray.size) (h2 : j < its2.toArray.size), EqAt A.in1 s its.toArray[j] its2.toArray[j] (g j) := by
              intro j h1 h2
              simp only [List.size_toArray] at h1 h2
              obtain ⟨d', hd'⟩ : ∃ d', ds[j]? = some d' := ⟨_, List.getElem?_eq_getElem (by omega)⟩
              obtain ⟨e', he'⟩ : ∃ e', es[j]? = some e' := ⟨_, List.getElem?_eq_getElem (by omega)⟩
              obtain ⟨v', hv', rv'⟩ := rs.get hd'
              obtain ⟨u', hu', ru'⟩ := rs2.get he'
              obtain ⟨p, hp, rp⟩ := vr.get hv'
              obtain ⟨p2, hp2, rp2⟩ := vr2.get hu'
              have e1 : its.toArray[j] = p := by
                rw [List.getElem?_eq_getElem h1] at hp
                simpa using hp
              have e2 : its2.toArray[j] = p2 := by
                rw [List.getElem?_eq_getElem h2] at hp2
                simpa using hp2
              rw [e1, e2]
              exact (eq_at I n hu1 rv' ru' rp rp2 (g1 j d' e' hd' he')).1
            have hk : (kk && ds.length == es.length) = ((List.range (min its.toArray.size its2.toArray.size)).all g && its.toArray.size == its2.toArray.size) := by
              rw [g2]; simp only [List.size_toArray]; rw [z1, z2]
            rw [hk]
            exact ⟨.tuples L1 L2 hu0 he, .tuples L1 L2 hu0 he⟩
        refine ⟨?_, main⟩
        by_cases hab : a = b
        · subst hab
          have := Rep.inj I (.tup sq rs) (.tup sq2 rs2)
          rw [this] at h
          rw [eqF_refl _ _ _ h]
          exact EqAt.same _
        · exact .of_refs hab main.1
      | non => cases h
      | bl _ => cases h
      | int _ => cases h
      | str _ => cases h
      | lst _ _ => cases h
      | exc _ _ => cases h
    | exc _ _ => cases r2 <;> cases h
end
end L2

set_option Elab.async false
set_option linter.all false
set_option maxRecDepth 100000
namespace L2
open PySem PySem.Spec PyProof.Rows
section
variable {X : Cx} {a b c e : Expr} {ma mb : ME} {la lb : ML} {pos : Pos}
noncomputable def rEqF (K : PySem.W.Frag) (neg : Bool) : R2 := fun x y H Q => ∃ d e k, Rep K H x d ∧ Rep K H y e ∧ eqF 8 d e = some k ∧ Q (.bl (if neg then !k else k)) H
theorem op_eqF (hu : X.A.units + 64 < cLine) : OpR X (compareOp .Eq) (rEqF X.K false) := by
  intro pins s σ H x y v u Q I rx ry h
  obtain ⟨d, e, k, r1, r2, h, q⟩ := h
  exact (eq_at I 8 (by omega) r1 r2 rx ry h).2.1 X.prog X.w _ _ ⟨.bl k, H, I, rfl, q⟩
theorem op_neF (hu : X.A.units + 64 < cLine) : OpR X (compareOp .NotEq) (rEqF X.K true) := by
  intro pins s σ H x y v u Q I rx ry h
  obtain ⟨d, e, k, r1, r2, h, q⟩ := h
  exact (eq_at I 8 (by omega) r1 r2 rx ry h).2.2 X.prog X.w _ _ ⟨.bl (!k), H, I, rfl, q⟩
noncomputable def eqFD (neg : Bool) (d e : D) : Option D := (eqF 8 d e).map fun k => .bl (if neg then !k else k)
@[irreducible] noncomputable def meqB (neg : Bool) (x y : ML) : ME := fun ρ => (x ρ).bind fun ds => (y ρ).bind fun es => eqFD neg (.lst ds) (.lst es)
theorem eqB_d {neg : Bool} {σ : St} {H : Hp} {Q : VK} (h : TD X.K (meqB neg la lb) σ H Q) : tOp (rEqF X.K neg) (TB X.K la) (TB X.K lb) σ H Q := by
  obtain ⟨F0, H0, F, ρ, g, rl, e, q⟩ := h
  unfold meqB at e
  cases h1 : la ρ with
  | none => rw [h1] at e; cases e
  | some ds =>
    cases h2 : lb ρ with
    | none => rw [h1, h2] at e; cases e
    | some es =>
      rw [h1, h2] at e
      have e : eqFD neg (.lst ds) (.lst es) = some g := e
      refine ⟨F0, H0, F, ρ, ds, rl, h1, fun p xs F1 H1 x1 s1 r1 => ⟨F0, H0, F1, ρ, es, rl.go x1, h2, fun p2 xs2 F2 H2 x2 s2 r2 => ?_⟩⟩
      unfold eqFD at e
      cases hk : eqF 8 (.lst ds) (.lst es) with
      | none => rw [hk] at e; cases e
      | some k =>
        rw [hk] at e; cases e
        exact ⟨_, _, k, .lst (x2.hh.seq s1) (r1.mono (x2.ff.trans x2.fh)), .lst s2 (r2.mono x2.fh), hk, q _ F2 H2 (x1.trans x2) (.bl _)⟩
theorem pc_eqB {op : CmpOp} {neg : Bool} (ho : OpR X (compareOp op) (rEqF X.K neg)) (ha : PB X a la) (hb : PB X b lb) (hm : behindInMarks op b = false) : PC' X (.Compare a [op] [b] pos) (mtest (meqB neg la lb)) := (pt_cmpR ho ha hb hm).imp fun σ H Q hpat => by
  obtain ⟨F0, H0, F, ρ, g, rl, e, q⟩ := hpat
  unfold mtest at e
  split at e
  · rename_i k hk
    cases e
    refine eqB_d ⟨F0, H0, F, ρ, .bl g, rl, hk, fun v F' H' x r => ?_⟩
    cases r
    exact ⟨_, rfl, q F' H' x⟩
  · cases e
noncomputable def tyD : D → String
  | .non => "NoneType" | .bl _ => "bool" | .int _ => "int" | .str _ => "str" | .lst _ => "list" | .tup _ => "tuple" | .exc _ => "?"
noncomputable def kitB (t c : String) : Option Bool := if t = "?" then none else if (Value.type t == Value.type c) = true then some true else if PySem.W.kitMeta c = true then (fastBuiltinMro t).map (·.contains (Value.type c)) else none
@[irreducible] noncomputable def misi (c : String) (m : ME) : ME := fun ρ => (m ρ).bind fun d => (kitB (tyD d) c).map .bl
end
end L2

set_option Elab.async false
set_option linter.all false
set_option maxRecDepth 100000
namespace L2
open PySem PySem.Spec PyProof.Rows
theorem filterMap_get (its : List Value) : ∀ js : List Nat, (∀ j ∈ js, j < its.length) → js.filterMap (its.toArray[·]?) = js.map fun j => its.getD j Value.none
  | [], _ => rfl
  | j :: js, h => by
    have hj := h j (by simp)
    have e : its.toArray[j]? = some (its.getD j Value.none) := by simp [List.getD_eq_getElem?_getD, hj]
    rw [List.filterMap_cons, e, List.map_cons, filterMap_get its js fun k hk => h k (by simp [hk])]
theorem slicePick_rev (its : List Value) : slicePick its.toArray none none (some (-1)) = its.reverse.toArray := by
  have hb : sliceBounds none none (some (-1)) its.toArray.size = ((its.length : Int) - 1, -1, -1) := by
    simp [sliceBounds]
  have hr : sliceRange ((its.length : Int) - 1) (-1) (-1) = (List.range its.length).map fun (k : Nat) => ((its.length : Int) - 1 + -1 * (k : Int)).toNat := by
    unfold sliceRange
    have : (if (-1 : Int) > 0 then (if (its.length : Int) - 1 < -1 then (-1 - ((its.length : Int) - 1) + -1 - 1) / -1 else 0) else (if (its.length : Int) - 1 > -1 then ((its.length : Int) - 1 - -1 - -1 - 1) / (- -1) else 0)) = (its.length : Int) := by
      rw [if_neg (by decide)]
      split
      · rw [show (- -1 : Int) = 1 by decide, Int.ediv_one]; omega
      · omega
    simp only [this, Int.toNat_natCast]
  unfold slicePick
  rw [hb]
  show ((sliceRange ((its.length : Int) - 1) (-1) (-1)).filterMap (its.toArray[·]?)).toArray = _
  rw [hr, filterMap_get]
  · congr 1
    apply List.ext_getElem
    · simp
    · intro i h1 h2
      simp only [List.length_map, List.length_range] at h1
      simp only [List.getElem_map, List.getElem_range, List.getElem_reverse]
      have e : ((its.length : Int) - 1 + -1 * (i : Int)).toNat = its.length - 1 - i := by omega
      rw [e]
      simp [List.getD_eq_getElem?_getD, show its.length - 1 - i < its.length by omega]
  · intro j hj
    simp only [List.mem_map, List.mem_range] at hj
    obtain ⟨k, hk, rfl⟩ := hj
    omega
section
variable {X : Cx} {a b c e k : Expr} {te : TE} {ma mb : ME} {la lb : ML} {pos p2 : Pos} {st : Stmt}
noncomputable def tRev (K : PySem.W.Frag) (te : TE) (tk : TO) : TE := fun σ H Q => te σ H fun x H1 => tk σ H1 fun o H2 => o = some (-1) ∧ ∃ a xs, x = .ref a ∧ SqL K H2 a xs ∧ ∀ p, H2 p = none → Q (.ref p) (upd H2 p (.lst xs.reverse))
theorem pe_rev {ko : Option Expr} {tk : TO} (he : PE X e te) (hk : PO X ko tk) (hsub : ∀ v i : Value, subscripted (.Slice none none ko p2) false v i = operate [v, i] (getItem v i)) : PE X (.Subscript e (.Slice none none ko p2) pos) (tRev X.K te tk) := by
  intro pins s σ H Q I h
  refine Subscript_ (thn (he pins s σ H _ I h) fun v s1 hpat => ?_)
  obtain ⟨x, H1, I1, r1, q1⟩ := hpat
  refine wpAny_Slice ?_
  rw [evalPart_none]
  refine wpAny_pure (wpAny_pure (thn (hk pins s1 σ H1 _ I1 q1) fun vk s3 hpat => ?_))
  obtain ⟨o, H3, I3, pk, eo, a, xs, ex, hx, q⟩ := hpat
  subst eo ex
  cases r1
  have I4 : Inv X pins σ H3 { s3 with heap := s3.heap.push { cls := .type "slice", data := .fields #[.none, .none, vk] } } := I3.kept (t' := s3.toks) fun b ob q => Heap.get?_push_of_some _ q
  obtain ⟨its, r, ht, hz⟩ := I4.list hx
  have hlen := r.length
  show wpAny (model X.prog X.w) X.A (subscriptTail e (.Slice none none ko p2) (.ref a) (.ref s3.heap.objs.size)) (EP X pins σ Q) X.xe { s3 with heap := s3.heap.push { cls := .type "slice", data := .fields #[.none, .none, vk] } }
  refine tail_any (ops := [.ref a, .ref s3.heap.objs.size]) ht.isList.typeIs slot_list_getitem.lookup ?_ (hsub _ _)
  refine wpAny_getItem_list_slice ht.isList (Heap.IsSliceOf.new ..) .none .none pk (by simp) ?_ (by rw [List.size_toArray] <;> omega)
  rw [slicePick_rev]
  refine ⟨.ref _, _, I4.laid (t' := s3.toks) (o := .lst xs.reverse) (fun b ob q => Heap.get?_push_of_some _ q) (Nat.le_refl _) ?_, rfl, q _ (I4.hok.fresh (Nat.le_refl _))⟩
  refine ⟨by rw [List.length_reverse]; exact hz, _, 0, ?_, Heap.get?_push_size _ rfl⟩
  exact Vals.reverse r
@[irreducible] noncomputable def mrev (m : ML) (k : MO) : ML := fun ρ => (m ρ).bind fun ds => match k ρ with | some (some (-1)) => some ds.reverse | _ => none
theorem pf_rev {ko : Option Expr} {mk : MO} (ha : PB X a la) (hk : POs X ko mk) (hsub : ∀ v i : Value, subscripted (.Slice none none ko p2) false v i = operate [v, i] (getItem v i) := by intro _ _; with_unfolding_all rfl) : PF X (.Subscript a (.Slice none none ko p2) pos) (mrev la mk) := (pe_rev ha hk hsub).imp fun σ H Q hpat => by
  obtain ⟨F0, H0, F, ρ, g, rl, e, q⟩ := hpat
  unfold mrev at e
  cases h1 : la ρ with
  | none => rw [h1] at e; cases e
  | some ds =>
    rw [h1] at e
    dsimp only [Option.bind] at e
    split at e
    · rename_i h2
      cases e
      refine ⟨F0, H0, F, ρ, ds, rl, h1, fun p xs F1 H1 x1 s1 r1 => ⟨F0, H0, F1, ρ, _, rl.go x1, h2, fun F2 H2 x2 => ⟨rfl, p, xs, rfl, x2.hh.seq s1, fun w hw => ?_⟩⟩⟩
      have xx := x1.trans x2
      exact q w _ F2 _ (xx.trans (Ext.own x2.fh hw)) (xx.hh.free hw) (x2.fh.free hw) upd_same (r1.mono x2.ff).reverse
    · cases e
@[irreducible] noncomputable def msetix2 (i : Nat) (ix iy v : ME) : MS := fun ρ => (v ρ).bind fun d => match d with
  | .tup [d1, d2] => match ρ[i]? with
    | some (some (.own ds)) => (ix ρ).bind fun x => match x with
      | .int k => (ixN ds.length k).bind fun j => (iy (ρ.set i (some (.own (ds.set j d1))))).bind fun y => match y with
        | .int k2 => (ixN ds.length k2).map fun j2 => .nx (ρ.set i (some (.own ((ds.set j d1).set j2 d2))))
        | _ => none
      | _ => none
    | _ => none
  | _ => none
end
end L2

set_option Elab.async false
set_option linter.all false
set_option maxRecDepth 100000
namespace L2
open PySem PySem.Spec PyProof.Rows
section
variable {X : Cx} {a b c e : Expr} {ma mb : ME} {la lb : ML} {pos : Pos} {st : Stmt}
end
end L2

set_option Elab.async false
set_option linter.all false
set_option maxRecDepth 100000
namespace L2
open PySem PySem.Spec PyProof.Rows
section
variable {K : PySem.W.Frag} {F0 H0 F H : Hp} {σ : St} {ρ : Ro}
end
end L2

set_option Elab.async false
set_option linter.all false
set_option maxRecDepth 100000
namespace L2
open PySem PySem.Spec PyProof.Rows
section
variable {X : Cx} {a b c e : Expr} {ma mb mz : ME} {la lb : ML} {pos : Pos}
noncomputable def flV : D → Option V
  | .non => some .non | .bl b => some (.bl b) | .int i => some (.int i) | .str x => some (.str x)
  | _ => none
noncomputable def flVs : List D → Option (List V)
  | [] => some []
  | d :: r => match flV d with | some v => (match flVs r with | some vs => some (v :: vs) | none => none) | none => none
theorem flV_rep {K : PySem.W.Frag} {F : Hp} {v u : V} {d : D} (r : Rep K F v d) (h : flV d = some u) : v = u ∧ flatV u = true := by
  cases r <;> cases h <;> exact ⟨rfl, rfl⟩
theorem flVs_reps {K : PySem.W.Frag} {F : Hp} : ∀ {vs us : List V} {ds : List D}, Reps K F vs ds → flVs ds = some us → vs = us ∧ us.all flatV = true
  | _, _, _, .nil, h => by cases h; exact ⟨rfl, rfl⟩
  | _, _, _, .cons (d := d) (ds := ds) r t, h => by
    unfold flVs at h
    cases h1 : flV d with
    | none => rw [h1] at h; cases h
    | some u =>
      cases h2 : flVs ds with
      | none => rw [h1, h2] at h; cases h
      | some us =>
        rw [h1, h2] at h; cases h
        obtain ⟨a1, a2⟩ := flV_rep r h1
        obtain ⟨b1, b2⟩ := flVs_reps t h2
        subst a1 b1
        exact ⟨rfl, by rw [List.all_cons, a2, b2]; rfl⟩
noncomputable def inDs (neg : Bool) (d : D) (ds : List D) : Option D := match flV d, flVs ds with
  | some v, some vs => some (.bl (if neg then !inV v vs else inV v vs))
  | _, _ => none
noncomputable def inD (neg : Bool) : D → D → Option D
  | d, .lst ds => inDs neg d ds
  | d, .tup ds => inDs neg d ds
  | _, _ => none
theorem inDs_some {neg : Bool} {d w : D} {ds : List D} (h : inDs neg d ds = some w) : ∃ v vs, flV d = some v ∧ flVs ds = some vs ∧ w = .bl (if neg then !inV v vs else inV v vs) := by
  unfold inDs at h
  split at h
  · rename_i v vs h1 h2; cases h; exact ⟨v, vs, h1, h2, rfl⟩
  · cases h
theorem opd_in {K : PySem.W.Frag} {neg : Bool} : OpD K (rIn K neg) (inD neg) := by
  intro F H x y d e w Q s r1 r2 h q
  cases r2 with
  | lst sq rs =>
    obtain ⟨v, vs, h1, h2, rfl⟩ := inDs_some (show inDs neg d _ = some w from h)
    obtain ⟨a1, a2⟩ := flV_rep r1 h1
    obtain ⟨b1, b2⟩ := flVs_reps rs h2
    subst a1 b1
    exact ⟨_, _, rfl, .inl (s.seq sq), a2, b2, q _ F H (.refl s) (.bl _)⟩
  | tup sq rs =>
    obtain ⟨v, vs, h1, h2, rfl⟩ := inDs_some (show inDs neg d _ = some w from h)
    obtain ⟨a1, a2⟩ := flV_rep r1 h1
    obtain ⟨b1, b2⟩ := flVs_reps rs h2
    subst a1 b1
    exact ⟨_, _, rfl, .inr (s.seqT sq), a2, b2, q _ F H (.refl s) (.bl _)⟩
  | _ => cases d <;> cases h

noncomputable def minI : List Int → Int
  | [] => 0
  | a :: r => r.foldl (fun x y => if y < x then y else x) a
theorem foldMin : ∀ (r : List Int) (a : Int), (r.foldl (fun x y => if y < x then y else x) a ∈ a :: r) ∧ ∀ y ∈ a :: r, r.foldl (fun x y => if y < x then y else x) a ≤ y
  | [], a => ⟨by simp, fun y hy => by simp at hy; subst hy; exact Int.le_refl _⟩
  | b :: r, a => by
    obtain ⟨h1, h2⟩ := foldMin r (if b < a then b else a)
    rw [List.foldl_cons]
    refine ⟨?_, fun y hy => ?_⟩
    · rcases List.mem_cons.mp h1 with h | h
      · rw [h]; split <;> simp
      · exact List.mem_cons_of_mem _ (List.mem_cons_of_mem _ h)
    · have h0 := h2 _ List.mem_cons_self
      rcases List.mem_cons.mp hy with h | h
      · subst h; refine Int.le_trans h0 ?_; split <;> omega
      · rcases List.mem_cons.mp h with h | h
        · subst h; refine Int.le_trans h0 ?_; split <;> omega
        · exact h2 y (List.mem_cons_of_mem _ h)
theorem minI_mem {ns : List Int} (h : ns ≠ []) : minI ns ∈ ns := by
  cases ns with
  | nil => exact absurd rfl h
  | cons a r => exact (foldMin r a).1
theorem minI_le {ns : List Int} {y : Int} (h : y ∈ ns) : minI ns ≤ y := by
  cases ns with
  | nil => cases h
  | cons a r => exact (foldMin r a).2 y h
theorem vals_intItems : ∀ {ns : List Int} {its : List Value}, Vals (ns.map V.int) its → ∃ xs : List (Int × Tok), its.toArray = intItems xs.toArray ∧ xs.map (·.1) = ns
  | [], _, .nil => ⟨[], by unfold intItems; simp, rfl⟩
  | n :: ns, _, .cons r t => by
    obtain ⟨k, rfl⟩ := r
    obtain ⟨xs, h1, h2⟩ := vals_intItems t
    refine ⟨(n, k) :: xs, ?_, by rw [List.map_cons, h2]⟩
    have := congrArg Array.toList h1
    unfold intItems at this ⊢
    simp at this ⊢
    exact this
theorem numAt_get (xs : List (Int × Tok)) {i : Nat} (h : i < xs.length) : numAt xs.toArray i = (xs[i]).1 := by
  unfold numAt
  simp [h]
noncomputable def rMinL (K : PySem.W.Frag) : List V → Hp → VK → Prop := fun vs H Q => ∃ p ns, vs = [.ref p] ∧ SqL K H p (ns.map V.int) ∧ ns ≠ [] ∧ Q (.int (minI ns)) H
theorem call_minL (hc : X.calm = true) : CallR X (.builtin "min") (rMinL X.K) := by
  intro pins s σ H xs us Q I r h
  obtain ⟨p, ns, rfl, sq, hne, q⟩ := h
  obtain ⟨u, rfl, rx⟩ := vals1 r
  cases rx
  obtain ⟨its, vr, pl, hz⟩ := I.list sq
  obtain ⟨ts, h1, h2⟩ := vals_intItems vr
  have hp := pl.isList
  rw [h1] at hp
  have hlen : 0 < ts.length := by
    cases ts with
    | nil => simp at h2; exact absurd h2.symm (by simpa using hne)
    | cons _ _ => simp
  refine min_intList (I.ok.hd hc) hp (by simpa using hlen) fun v h' tk e k => ?_
  obtain ⟨b1, b2⟩ := argBest_lt (numAt ts.toArray) (ts.toArray.size - 1)
  rw [List.size_toArray] at b1 b2 e
  generalize hi : argBest (fun i j => decide (numAt ts.toArray i < numAt ts.toArray j)) (ts.length - 1) = i at b1 b2 e
  have hil : i < ts.length := by omega
  have hv : v = Value.int (ts[i]).1 (ts[i]).2 := by
    unfold intItems at e
    simp [hil] at e
    exact e.symm
  have hm : (ts[i]).1 = minI ns := by
    have m1 : (ts[i]).1 ∈ ns := by rw [← h2]; exact List.mem_map_of_mem (List.getElem_mem hil)
    refine Int.le_antisymm ?_ (minI_le m1)
    have m2 := minI_mem hne
    rw [← h2] at m2
    obtain ⟨t, ht, e2⟩ := List.mem_map.mp m2
    obtain ⟨j, hj, e3⟩ := List.getElem_of_mem ht
    have := b2 j (by omega)
    rw [numAt_get ts hj, numAt_get ts hil, e3, e2, h2] at this
    exact this
  subst hv
  exact ⟨.int (minI ns), H, I.kept k, ⟨_, by rw [hm]⟩, q⟩
noncomputable def intsD : List D → Option (List Int)
  | [] => some []
  | .int i :: r => match intsD r with | some ns => some (i :: ns) | none => none
  | _ => none
theorem intsD_reps {K : PySem.W.Frag} {F : Hp} : ∀ {vs : List V} {ds : List D} {ns : List Int}, Reps K F vs ds → intsD ds = some ns → vs = ns.map V.int
  | _, _, _, .nil, h => by cases h; rfl
  | _, _, _, .cons (d := d) (ds := ds) r t, h => by
    cases r with
    | int i =>
      unfold intsD at h
      cases h1 : intsD ds with
      | none => simp only [h1] at h; cases h
      | some ns => simp only [h1] at h; cases h; rw [intsD_reps t h1]; rfl
    | _ => cases h
theorem intsD_map : ∀ ns : List Int, intsD (ns.map D.int) = some ns
  | [] => rfl
  | n :: ns => by show (match intsD (ns.map D.int) with | some ns => some (n :: ns) | none => none) = _; rw [intsD_map ns]
@[irreducible] noncomputable def mminL (m : ML) : ME := fun ρ => match m ρ with | some ds => (match intsD ds with | some (n :: ns) => some (.int (minI (n :: ns))) | _ => none) | none => none
theorem pd_minL {p : Pos} {m : ML} (hc : X.calm = true) (hg : Gl X "min") (hm : X.mg "min" = none) (ha : PB X e m) (hs : starEach (e :: []) X.env = (false, eval e X.env) :: starEach [] X.env := by rfl) (he : starEach [e] X.env = (false, eval e X.env) :: starEach [] X.env := by rfl) (hpl : (backTo pos (starEach [] X.env)).any (·.1) = false := by rfl) : PD X (.Call (.Name "min" p) [e] [] pos) (mminL m) :=
  (pe_callB (call_minL hc) hg hm PyProof.Rows.boot_min (pa_cons ha pa_nil hs) (by decide) (by decide) he hpl).imp fun σ H Q hpat => by
    obtain ⟨F0, H0, F, ρ, g, rl, e, q⟩ := hpat
    unfold mminL at e
    cases h1 : m ρ with
    | none => rw [h1] at e; cases e
    | some ds =>
      rw [h1] at e
      cases h2 : intsD ds with
      | none => simp only [h2] at e; cases e
      | some ns =>
        cases ns with
        | nil => simp only [h2] at e; cases e
        | cons n ns =>
          simp only [h2] at e; cases e
          refine ⟨F0, H0, F, ρ, ds, rl, h1, fun p xs F1 H1 x1 s1 r1 => ⟨p, n :: ns, rfl, ?_, by simp, q _ F1 H1 x1 (.int _)⟩⟩
          rw [← intsD_reps r1 h2]; exact s1

noncomputable def tabVs : List (Str × Str) → List DictEntry → Prop
  | [], [] => True
  | (k, v) :: r, e :: es => (∃ t, e.key = .str k t) ∧ (∃ t, e.val = .str v t) ∧ tabVs r es
  | _, _ => False
structure KTab (w : World) (K : PySem.W.Frag) (a : Addr) (tab : List (Str × Str)) : Prop where
  ns : (a == sysModules) = false
  nd : (tab.map (·.1)).Nodup
  obj : ∃ es ep, K.lookup a = some ⟨.type "dict", none, .dict es ep, #[]⟩ ∧ tabVs tab es.toList ∧ ∀ e ∈ es.toList, ∀ k t, e.key = .str k t → e.hash = hashStr w k
theorem tab_pairs {P : Program} {w : World} : ∀ {tab : List (Str × Str)} {es : List DictEntry}, tabVs tab es → ∃ kvs : List (Key × Value), Pairs (mixKind P w) es kvs ∧ kvs.map (·.1) = tab.map (fun p => Sum.inr p.1) ∧ ∀ k, (∀ v, tab.lookup k = some v → ∃ t, valueAt kvs (Sum.inr k) = some (.str v t)) ∧ (tab.lookup k = none → valueAt kvs (Sum.inr k) = none)
  | [], [], _ => ⟨[], .nil, rfl, fun k => ⟨fun v h => by simp at h, fun _ => rfl⟩⟩
  | [], _ :: _, h => h.elim
  | _ :: _, [], h => h.elim
  | (k, v) :: r, e :: es, ⟨⟨t1, h1⟩, ⟨t2, h2⟩, h3⟩ => by
    obtain ⟨kvs, a1, a2, a3⟩ := tab_pairs (P := P) (w := w) h3
    refine ⟨(Sum.inr k, .str v t2) :: kvs, .cons (by rw [h1]; exact keyIs_str k t1) h2 a1, by rw [List.map_cons, List.map_cons, a2], fun k' => ?_⟩
    unfold valueAt
    by_cases hk : k' = k
    · subst hk
      refine ⟨fun v' h => ?_, fun h => ?_⟩
      · rw [List.lookup_cons_self] at h; cases h
        exact ⟨t2, by simp⟩
      · rw [List.lookup_cons_self] at h; cases h
    · have hb : (k' == k) = false := by simpa using hk
      have hb2 : ¬ ((Sum.inr k : Key) = Sum.inr k') := fun z => hk (Sum.inr.inj z).symm
      obtain ⟨c1, c2⟩ := a3 k'
      refine ⟨fun v' h => ?_, fun h => ?_⟩
      · rw [List.lookup_cons, hb] at h
        obtain ⟨t, ht⟩ := c1 v' h
        unfold valueAt at ht
        exact ⟨t, by simpa [hb2] using ht⟩
      · rw [List.lookup_cons, hb] at h
        have := c2 h
        unfold valueAt at this
        simpa [hb2] using this
theorem KTab.dict {t : Addr} {tab : List (Str × Str)} {pins : List (Addr × Obj)} {σ : St} {H : Hp} {s : Shared} (T : KTab X.w X.K t tab) (I : Inv X pins σ H s) : ∃ kvs : List (Key × Value), s.heap.DictOf (mixKind X.prog X.w) t kvs ∧ ∀ k, (∀ v, tab.lookup k = some v → ∃ t, valueAt kvs (Sum.inr k) = some (.str v t)) ∧ (tab.lookup k = none → valueAt kvs (Sum.inr k) = none) := by
  obtain ⟨es, ep, h1, h2, h3⟩ := T.obj
  obtain ⟨kvs, a1, a2, a3⟩ := tab_pairs (P := X.prog) (w := X.w) h2
  refine ⟨kvs, ⟨_, es, ep, I.kIn t _ h1, ⟨rfl, rfl, rfl⟩, rfl, fun e he => ?_, a1, ?_⟩, a3⟩
  · have key : ∀ {tab : List (Str × Str)} {es : List DictEntry}, tabVs tab es → ∀ e ∈ es, ∃ k t, e.key = .str k t := by
      intro tab
      induction tab with
      | nil => intro es h e he; cases es with
        | nil => cases he
        | cons _ _ => exact h.elim
      | cons p r ih =>
        intro es h e he
        cases es with
        | nil => cases he
        | cons e0 es =>
          obtain ⟨⟨t1, g1⟩, _, g3⟩ := h
          rcases List.mem_cons.mp he with z | z
          · subst z; exact ⟨_, t1, g1⟩
          · exact ih g3 e z
    obtain ⟨k, tk, hk⟩ := key h2 e (by simpa using he)
    exact ⟨Sum.inr k, by rw [hk]; exact keyIs_str k tk, h3 e (by simpa using he) k tk hk⟩
  · rw [a2]
    have := T.nd
    rw [show tab.map (fun p => (Sum.inr p.1 : Key)) = (tab.map (·.1)).map Sum.inr by rw [List.map_map]; rfl]
    exact List.Pairwise.map _ (fun _ _ h z => h (Sum.inr.inj z)) this
noncomputable def rTab (t : Addr) (tab : List (Str × Str)) : R2 := fun x y H Q => ∃ k v, x = .ref t ∧ y = .str k ∧ tab.lookup k = some v ∧ Q (.str v) H
theorem ix_tab {t : Addr} {tab : List (Str × Str)} (T : KTab X.w X.K t tab) : IxR X (rTab t tab) := by
  intro value slice pins s σ H x y v u Q I rx ry h hs
  obtain ⟨k, z, rfl, rfl, hl, q⟩ := h
  cases rx
  obtain ⟨tk, rfl⟩ := ry
  obtain ⟨kvs, dd, hk⟩ := T.dict I
  obtain ⟨t2, hv⟩ := (hk k).1 z hl
  exact subscriptTail_builtinR (x := .str z t2) dd.typeIs slot_dict_getitem.lookup
    (wpAny_getItem_of (Q := fun r s' => r = .str z t2 ∧ EP X pins σ Q r s') (keyIs_str k tk) dd.mapOf hv ⟨rfl, .str z, H, I.tok _, ⟨_, rfl⟩, q⟩) hs
noncomputable def rTabIn (t : Addr) (tab : List (Str × Str)) (neg : Bool) : R2 := fun x y H Q => ∃ k, y = .ref t ∧ x = .str k ∧ Q (.bl (if neg then !(tab.lookup k).isSome else (tab.lookup k).isSome)) H
theorem tab_isSome {tab : List (Str × Str)} {kvs : List (Key × Value)} {k : Str} (h : (∀ v, tab.lookup k = some v → ∃ t, valueAt kvs (Sum.inr k) = some (.str v t)) ∧ (tab.lookup k = none → valueAt kvs (Sum.inr k) = none)) : (valueAt kvs (Sum.inr k : Key)).isSome = (tab.lookup k).isSome := by
  cases e : tab.lookup k with
  | none => rw [h.2 e]; rfl
  | some v => obtain ⟨t, z⟩ := h.1 v e; rw [z]; rfl
theorem op_tabNotIn {t : Addr} {tab : List (Str × Str)} (T : KTab X.w X.K t tab) : OpR X (compareOp .NotIn) (rTabIn t tab true) := by
  intro pins s σ H x y v u Q I rx ry h
  obtain ⟨k, rfl, rfl, q⟩ := h
  cases ry
  obtain ⟨tk, rfl⟩ := rx
  obtain ⟨kvs, dd, hk⟩ := T.dict I
  refine wpAny_notIn_of (mixKind_str X.prog X.w k tk) T.ns dd.mapOf ⟨.bl _, H, I.tok _, rfl, ?_⟩
  rw [tab_isSome (hk k)]
  exact q
noncomputable def tabD (tab : List (Str × Str)) : D → Option D
  | .str k => (tab.lookup k).map .str
  | _ => none
noncomputable def tabInD (tab : List (Str × Str)) (neg : Bool) : D → Option D
  | .str k => some (.bl (if neg then !(tab.lookup k).isSome else (tab.lookup k).isSome))
  | _ => none
theorem pd_tab {x : Str} {t : Addr} {tab : List (Str × Str)} {p : Pos} (T : KTab X.w X.K t tab) (hg : Gl X x) (hm : X.mg x = some (.ref t)) (hb : PD X b mb) (hs : PlainIx b := by exact fun _ _ => rfl) (hd : (x == ("__debug__" : Str)) = false := by decide) : PD X (.Subscript (.Name x p) b pos) (m1 (tabD tab) mb) :=
  (pe_ix (ix_tab T) (pe_glob (v := .ref t) hg hm rfl hd) hb hs).imp fun σ H Q hpat => by
    obtain ⟨F0, H0, F, ρ, g, rl, e, q⟩ := hpat
    obtain ⟨d, h1, h2⟩ := m1_some e
    refine ⟨F0, H0, F, ρ, d, rl, h1, fun v F1 H1 x1 r1 => ?_⟩
    cases r1 with
    | str k =>
      have h2 : (tab.lookup k).map D.str = some g := h2
      cases h3 : tab.lookup k with
      | none => rw [h3] at h2; cases h2
      | some z => rw [h3] at h2; cases h2; exact ⟨k, z, rfl, rfl, h3, q _ F1 H1 x1 (.str _)⟩
    | _ => cases h2
theorem tabIn_d {t : Addr} {tab : List (Str × Str)} {neg : Bool} {σ : St} {H : Hp} {Q : VK} (h : TD X.K (m1 (tabInD tab neg) ma) σ H Q) : tOp (rTabIn t tab neg) (TD X.K ma) (tC (.ref t)) σ H Q := by
  obtain ⟨F0, H0, F, ρ, g, rl, e, q⟩ := h
  obtain ⟨d, h1, h2⟩ := m1_some e
  refine ⟨F0, H0, F, ρ, d, rl, h1, fun v F1 H1 x1 r1 => ?_⟩
  cases r1 with
  | str k => cases h2; exact ⟨k, rfl, rfl, q _ F1 H1 x1 (.bl _)⟩
  | _ => cases h2
theorem pc_tabIn {x : Str} {t : Addr} {tab : List (Str × Str)} {p : Pos} {op : CmpOp} {neg : Bool} (ho : OpR X (compareOp op) (rTabIn t tab neg)) (hg : Gl X x) (hm : X.mg x = some (.ref t)) (ha : PD X a ma) (hd : (x == ("__debug__" : Str)) = false := by decide) : PC' X (.Compare a [op] [.Name x p] pos) (mtest (m1 (tabInD tab neg) ma)) :=
  (pt_cmpR ho ha (pe_glob (v := .ref t) hg hm rfl hd) rfl).imp fun σ H Q hpat => by
    obtain ⟨F0, H0, F, ρ, g, rl, e, q⟩ := hpat
    unfold mtest at e
    split at e
    · rename_i k hk
      cases e
      refine tabIn_d ⟨F0, H0, F, ρ, .bl g, rl, hk, fun v F' H' x r => ?_⟩
      cases r
      exact ⟨_, rfl, q F' H' x⟩
    · cases e
end
end L2

set_option Elab.async false
set_option linter.all false
set_option maxRecDepth 100000
namespace L2
open PySem PySem.Spec PyProof.Rows
section
variable {prog : Program} {w : World} {A : Around} {E : Value → Shared → Prop} {s : Shared}
structure ApT (z TO i1 i2 l : Addr) : Prop where
  lz : l ≠ z
  lTO : l ≠ TO
  l1 : l ≠ i1
  l2 : l ≠ i2
end
end L2

set_option Elab.async false
set_option linter.all false
set_option maxRecDepth 100000
namespace L2
open PySem PySem.Spec PyProof.Rows
section
variable {prog : Program} {w : World} {A : Around} {E : Value → Shared → Prop} {s : Shared}
end
section
variable {X : Cx}
end
end L2

set_option Elab.async false
set_option linter.all false
set_option maxRecDepth 100000
namespace L2
open PySem PySem.Spec PyProof.Rows
section
variable {X : Cx} {a b c e : Expr} {ma mb : ME} {la lb : ML} {pos : Pos}
end
section
variable {K : PySem.W.Frag} {F0 H0 F H H' : Hp} {σ : St} {ρ : Ro}
end
section
variable {X : Cx} {a b c e3 : Expr} {ma mb : ME} {la lb : ML} {pos : Pos} {E : XK} {es : List Expr} {mf : MF} {m : ML} {rb : List Stmt} {mx : MS} {cc : MB} {y : D}
end
end L2

set_option Elab.async false
set_option linter.all false
set_option maxRecDepth 100000
namespace L2
open PySem PySem.Spec PyProof.Rows
noncomputable abbrev MEm := Ro → Option (D × Ro)
noncomputable abbrev MLm := Ro → Option (List D × Ro)
section
variable {X : Cx} {a b c e : Expr} {ma mb : ME} {na nb : MEm} {pos : Pos} {es : List Expr}
variable {st : Stmt}
end
noncomputable abbrev MG := Addr → List D → List D → Option (Rt × List D)
end L2

set_option Elab.async false
set_option linter.all false
set_option maxRecDepth 100000
namespace L2
open PySem PySem.Spec PyProof.Rows
section
variable {K : PySem.W.Frag} {F0 H0 F H F' H' : Hp} {σ : St} {ρ : Ro}
end
open Classical in
section
variable {X : Cx} {e : Expr} {pos : Pos} {es : List Expr} {E : XK} {mf : MG} {m : MLm}
end
end L2

set_option Elab.async false
set_option linter.all false
set_option maxRecDepth 100000
namespace L2
open PySem PySem.Spec PyProof.Rows
section
variable {X : Cx} {a b c e : Expr} {ma mb : ME} {pos : Pos}
end
end L2

set_option Elab.async false
set_option linter.all false
set_option maxRecDepth 100000
namespace L2
open PySem PySem.Spec PyProof.Rows
noncomputable def LtAt (A : Around) (s : Shared) (v u : Value) (k : Bool) : Prop := ∀ (prog : Program) (w : World) (E : Value → Shared → Prop) (Q : Value → Shared → Prop), Q (.bool k) s → wpAny (model prog w) A (richCompare .Lt v u) Q E s
noncomputable def LexAt (A : Around) (s : Shared) : List Value → List Value → Bool → Prop
  | [], [], k => k = false
  | [], _ :: _, k => k = true
  | _ :: _, [], k => k = false
  | y :: ys, x :: xs, k => ∃ e, SeqAt.EqAt A s y x e ∧ ((e = true ∧ LexAt A s ys xs k) ∨ (e = false ∧ LtAt A s y x k))
section
open PySem.SeqAt
open PySem.AutoSeq1 (wpAny_loadPart')
open PySem.MeetsSeq PySem.MeetsSeq2 PySem.MeetsSeq3
set_option maxHeartbeats 4000000 in
theorem tup_lt (l b : Addr) (items items2 : Array Value) (n n2 : Nat) (dd dd2 : Option Addr) (sl sl2 : Array (Option Value)) (k : Bool) :
    Meets (Builtin.«tuple.__lt__» ⟨[.ref l, .ref b], []⟩)
      (fun A R s => s.heap.get? l = some { cls := .type "tuple", dict := dd, data := .seq items n, slots := sl } ∧ s.heap.get? b = some { cls := .type "tuple", dict := dd2, data := .seq items2 n2, slots := sl2 } ∧
        LexAt A.in1 s items.toList items2.toList k ∧ R (.ok (.ret (.bool k))) s) :=
  .of_wp fun prog w A R s h => by
    obtain ⟨hp, g, d, tk, os⟩ := s; obtain ⟨hl, hb, hx, h⟩ := h
    have f2 := AutoSeq1.sub_tuple_tuple
    wp_walk using wpAny_loadPart' hl, wpAny_loadPart' hb, wpAny_forIn_list _ (fun rest b s' => b.1 = none ∧ s' = ⟨hp, g, d, tk, os⟩ ∧ ∃ (vs ws : List Value), rest = vs.zip ws ∧
      vs.length + items2.size = ws.length + items.size ∧ LexAt A.in1 ⟨hp, g, d, tk, os⟩ vs ws k) _
    case turn =>
      rintro ⟨y, x⟩ rest b s' ⟨hb', rfl, vs, ws, hz, hlen, hL⟩
      cases vs with
      | nil => rw [List.zip_nil_left] at hz; cases hz
      | cons a vs =>
        cases ws with
        | nil => rw [List.zip_nil_right] at hz; cases hz
        | cons c ws =>
          rw [List.zip_cons_cons] at hz
          injection hz with hyx hrest
          injection hyx with hy hx'
          subst hy hx'
          simp only [List.length_cons] at hlen
          obtain ⟨e, he, hL⟩ := hL
          refine wpAny_bind (he prog w _ _ ?_)
          rcases hL with ⟨rfl, hL⟩ | ⟨rfl, hL⟩
          · wp_walk
            exact ⟨rfl, rfl, vs, ws, hrest, by omega, hL⟩
          · have hri := hL prog w
            wp_walk using hri
            exact ⟨_, rfl, by simpa using h⟩
    case fin =>
      rintro ⟨b1, b2⟩ s' ⟨hb', rfl, vs, ws, hz, hlen, hL⟩
      simp only at hb'
      subst hb'
      have hv : k = decide (items.size < items2.size) := by
        cases vs with
        | nil =>
          cases ws with
          | nil =>
            simp only [List.length_nil] at hlen
            rw [show k = false from hL]
            exact (decide_eq_false (by omega)).symm
          | cons c ws =>
            simp only [List.length_nil, List.length_cons] at hlen
            rw [show k = true from hL]
            exact (decide_eq_true (by omega)).symm
        | cons a vs =>
          cases ws with
          | nil =>
            simp only [List.length_nil, List.length_cons] at hlen
            rw [show k = false from hL]
            exact (decide_eq_false (by omega)).symm
          | cons c ws =>
            rw [List.zip_cons_cons] at hz
            cases hz
      rw [hv] at h
      wp_walk
      exact ⟨_, rfl, by simpa [Builtin.Tuple.tupleCompareSizes] using h⟩
    case h =>
      exact ⟨rfl, rfl, items.toList, items2.toList, rfl, by simp; omega, hx⟩
set_option maxHeartbeats 4000000 in
theorem lst_lt_loop (l b : Addr) (items items2 : Array Value) (n n2 : Nat) (dd dd2 : Option Addr) (sl sl2 : Array (Option Value)) (r : Bool) (k : Nat) :
    ∀ i : Nat, items.size - i = k → i ≤ items.size → i ≤ items2.size → Meets (Builtin.«list.__eq__.loop» ⟨[.ref l, .ref b, rawInt i, rawInt 0], []⟩)
      (fun A R s => s.heap.get? l = some { cls := .type "list", dict := dd, data := .seq items n, slots := sl } ∧ s.heap.get? b = some { cls := .type "list", dict := dd2, data := .seq items2 n2, slots := sl2 } ∧
        LexAt A.in1 s (items.toList.drop i) (items2.toList.drop i) r ∧ R (.ok (.ret (.bool r))) s) := by
  induction k with
  | zero =>
    intro i hk h1 h2 prog w A R s h
    obtain ⟨hp, g, d, tk, os⟩ := s; obtain ⟨hl, hb, hx, h⟩ := h
    wp_walk using wpAny_loadPart' hl, wpAny_loadPart' hb
    have hi1 : items[((i : Nat) : Int).toNat]? = none := by simp; omega
    have e1 : items.toList.drop i = [] := List.drop_eq_nil_of_le (by simp; omega)
    rw [e1] at hx
    have hr : r = decide (items.size < items2.size) := by
      cases e2 : items2.toList.drop i with
      | nil =>
        rw [e2] at hx
        have : items2.size ≤ i := by simpa using e2
        rw [show r = false from hx]
        exact (decide_eq_false (by omega)).symm
      | cons c ws =>
        rw [e2] at hx
        have : i < items2.size := by
          rcases Nat.lt_or_ge i items2.size with z | z
          · exact z
          · rw [List.drop_eq_nil_of_le (by simpa using z)] at e2; cases e2
        rw [show r = true from hx]
        exact (decide_eq_true (by omega)).symm
    rw [hi1]
    wp_walk using wpAny_loadPart' hl, wpAny_loadPart' hb
    rw [hr] at h
    exact h
  | succ k ih =>
    intro i hk h1 h2 prog w A R s h
    obtain ⟨hp, g, d, tk, os⟩ := s; obtain ⟨hl, hb, hx, h⟩ := h
    have hlt : i < items.size := by omega
    have hi1 : items[((i : Nat) : Int).toNat]? = some items[i] := by simp [hlt]
    have e1 : items.toList.drop i = items[i] :: items.toList.drop (i + 1) := by rw [List.drop_eq_getElem_cons (by simpa using hlt)]; simp
    have hc : ((i : Int) + 1) = ((i + 1 : Nat) : Int) := by push_cast; rfl
    rw [e1] at hx
    by_cases hlt2 : i < items2.size
    · have hi2 : items2[((i : Nat) : Int).toNat]? = some items2[i] := by simp [hlt2]
      have e2 : items2.toList.drop i = items2[i] :: items2.toList.drop (i + 1) := by rw [List.drop_eq_getElem_cons (by simpa using hlt2)]; simp
      rw [e2] at hx
      obtain ⟨e, he, hx⟩ := hx
      wp_walk using wpAny_loadPart' hl, wpAny_loadPart' hb
      rw [hi1, hi2]
      refine wpAny_bind (he prog w _ _ ?_)
      rcases hx with ⟨rfl, hx⟩ | ⟨rfl, hx⟩
      · wp_walk
        rw [hc]
        exact ⟨plainId_quiet plain_eq_loop _, codeAny_builtin entry_eq_loop (by
          rw [Around.under_plainId plain_eq_loop _]
          exact ih (i + 1) (by omega) (by omega) (by omega) prog w A R _ ⟨hl, hb, hx, h⟩)⟩
      · have hri := hx prog w
        wp_walk using wpAny_loadPart' hl, wpAny_loadPart' hb
        rw [hi1, hi2]
        wp_walk using hri
        exact h
    · have hi2 : items2[((i : Nat) : Int).toNat]? = none := by simp; omega
      have e2 : items2.toList.drop i = [] := List.drop_eq_nil_of_le (by simp; omega)
      rw [e2] at hx
      have hr : r = decide (items.size < items2.size) := by
        rw [show r = false from hx]
        exact (decide_eq_false (by omega)).symm
      wp_walk using wpAny_loadPart' hl, wpAny_loadPart' hb
      rw [hi1, hi2]
      wp_walk using wpAny_loadPart' hl, wpAny_loadPart' hb
      rw [hr] at h
      exact h
set_option maxHeartbeats 4000000 in
theorem lst_lt (l b : Addr) (items items2 : Array Value) (n n2 : Nat) (dd dd2 : Option Addr) (sl sl2 : Array (Option Value)) (r : Bool) :
    Meets (Builtin.«list.__lt__» ⟨[.ref l, .ref b], []⟩)
      (fun A R s => s.heap.get? l = some { cls := .type "list", dict := dd, data := .seq items n, slots := sl } ∧ s.heap.get? b = some { cls := .type "list", dict := dd2, data := .seq items2 n2, slots := sl2 } ∧
        LexAt A.in1 s items.toList items2.toList r ∧ R (.ok (.ret (.bool r))) s) := by
  intro prog w A R s h
  obtain ⟨hp, g, d, tk, os⟩ := s; obtain ⟨hl, hb, hx, h⟩ := h
  have f3 := AutoSeq1.sub_list_list
  wp_walk using wpAny_loadPart' hl, wpAny_loadPart' hb
  exact ⟨plainId_quiet plain_eq_loop _, codeAny_builtin entry_eq_loop (by
    rw [Around.under_plainId plain_eq_loop _]
    exact lst_lt_loop l b items items2 n n2 dd dd2 sl sl2 r _ 0 rfl (Nat.zero_le _) (Nat.zero_le _) prog w A R _ ⟨hl, hb, by simpa using hx, h⟩)⟩
end
noncomputable def lexF (eq lt : D → D → Option Bool) : List D → List D → Option Bool
  | [], [] => some false
  | [], _ :: _ => some true
  | _ :: _, [] => some false
  | d :: ds, e :: es => match eq d e with
    | some true => lexF eq lt ds es
    | some false => lt d e
    | none => none
noncomputable def ltF : Nat → D → D → Option Bool
  | 0, _, _ => none
  | n + 1, .lst ds, .lst es => lexF (eqF n) (ltF n) ds es
  | n + 1, .tup ds, .tup es => lexF (eqF n) (ltF n) ds es
  | _ + 1, .int i, .int j => some (decide (i < j))
  | _ + 1, _, _ => none
section
variable {X : Cx} {pins : List (Addr × Obj)} {σ : St} {H : Hp} {s : Shared}
theorem lex_at (I : Inv X pins σ H s) (n : Nat) {A : Around} (hu : A.units + n < cLine) (ih : ∀ {x y : V} {v u : Value} {d e : D} {k : Bool}, Rep X.K H x d → Rep X.K H y e → RelV x v → RelV y u → ltF n d e = some k → LtAt A s v u k) :
    ∀ {xs ys : List V} {vs us : List Value} {ds es : List D} {k : Bool}, Reps X.K H xs ds → Reps X.K H ys es → Vals xs vs → Vals ys us → lexF (eqF n) (ltF n) ds es = some k → LexAt A s vs us k
  | _, _, _, _, _, _, k, .nil, .nil, .nil, .nil, h => by cases h; exact rfl
  | _, _, _, _, _, _, k, .nil, .cons _ _, .nil, .cons _ _, h => by cases h; exact rfl
  | _, _, _, _, _, _, k, .cons _ _, .nil, .cons _ _, .nil, h => by cases h; exact rfl
  | _, _, _, _, _, _, k, .cons (d := d) r1 t1, .cons (d := e) r2 t2, .cons q1 p1, .cons q2 p2, h => by
    unfold lexF at h
    cases hq : eqF n d e with
    | none => rw [hq] at h; cases h
    | some b =>
      rw [hq] at h
      refine ⟨b, (eq_at I n hu r1 r2 q1 q2 hq).1, ?_⟩
      cases b with
      | true => exact .inl ⟨rfl, lex_at I n hu ih t1 t2 p1 p2 h⟩
      | false => exact .inr ⟨rfl, ih r1 r2 q1 q2 h⟩
theorem lt_at (I : Inv X pins σ H s) : ∀ (n : Nat) {A : Around} {x y : V} {v u : Value} {d e : D} {k : Bool}, A.units + n < cLine → Rep X.K H x d → Rep X.K H y e → RelV x v → RelV y u → ltF n d e = some k → LtAt A s v u k
  | 0, A, x, y, v, u, d, e, k, hu, r1, r2, q1, q2, h => by simp [ltF] at h
  | n + 1, A, x, y, v, u, d, e, k, hu, r1, r2, q1, q2, h => by
    have hu0 : A.units < cLine := by omega
    have hu1 : A.in1.units + n < cLine := by show A.units + 1 + n < cLine; omega
    cases r1 with
    | int i =>
      cases r2 with
      | int j =>
        obtain ⟨t, rfl⟩ := q1
        obtain ⟨t', rfl⟩ := q2
        cases h
        exact fun prog w E Q hQ => HT.rcLt_int A s i t j t' prog w E Q hQ
      | _ => cases h
    | lst sq rs =>
      cases r2 with
      | lst sq2 rs2 =>
        cases q1; cases q2
        obtain ⟨its, vr, ⟨⟨cls, dd, data, sl⟩, m, ho, hc, hdd, hd⟩, _⟩ := I.list sq
        obtain ⟨its2, vr2, ⟨⟨cls2, dd2, data2, sl2⟩, m2, ho2, hc2, hdd2, hd2⟩, _⟩ := I.list sq2
        simp only at hc hd hc2 hd2
        subst hc hd hc2 hd2
        have L := lex_at I n hu1 (fun a b c d e => lt_at I n hu1 a b c d e) rs rs2 vr vr2 (show lexF (eqF n) (ltF n) _ _ = some k from h)
        intro prog w E Q hQ
        exact richCompare_meets_room (op := .Lt) ⟨_, ho, rfl⟩ ⟨_, ho2, rfl⟩ PySem.F.slot_list_lt PySem.F.entry_list_lt (PySem.F.args_list_lt_2 _ _) (lst_lt _ _ its.toArray its2.toArray m m2 dd dd2 sl sl2 k)
          ⟨ho, ho2, by simpa using L, show Value.bool k ≠ Value.notImplemented ∧ Q (.bool k) s from ⟨(fun x => nomatch x), hQ⟩⟩ hu0
      | _ => cases h
    | tup sq rs =>
      cases r2 with
      | tup sq2 rs2 =>
        cases q1; cases q2
        obtain ⟨its, vr, ⟨⟨cls, dd, data, sl⟩, ho, hc, m, hd⟩, _⟩ := I.tuple sq
        obtain ⟨its2, vr2, ⟨⟨cls2, dd2, data2, sl2⟩, ho2, hc2, m2, hd2⟩, _⟩ := I.tuple sq2
        simp only at hc hd hc2 hd2
        subst hc hd hc2 hd2
        have L := lex_at I n hu1 (fun a b c d e => lt_at I n hu1 a b c d e) rs rs2 vr vr2 (show lexF (eqF n) (ltF n) _ _ = some k from h)
        intro prog w E Q hQ
        exact richCompare_meets_room (op := .Lt) ⟨_, ho, rfl⟩ ⟨_, ho2, rfl⟩ PySem.F.slot_tuple_lt PySem.F.entry_tuple_lt (PySem.F.args_tuple_lt_2 _ _) (tup_lt _ _ its.toArray its2.toArray m m2 dd dd2 sl sl2 k)
          ⟨ho, ho2, by simpa using L, show Value.bool k ≠ Value.notImplemented ∧ Q (.bool k) s from ⟨(fun x => nomatch x), hQ⟩⟩ hu0
      | _ => cases h
    | _ => cases r2 <;> cases h
end
end L2

set_option Elab.async false
set_option linter.all false
set_option maxRecDepth 100000
namespace L2
open PySem PySem.Spec PyProof.Rows
noncomputable def KeyAt (X : Cx) (kv : Value) (mk : D → Option D) : Prop := ∀ (pins : List (Addr × Obj)) (σ : St) (H F : Hp) (s : Shared) (x : V) (u : Value) (d kd : D), Inv X pins σ H s → Same F H → Rep X.K F x d → RelV x u → mk d = some kd →
  wpAny (model X.prog X.w) X.A.in1 (call kv [u]) (fun w s' => ∃ y F' H', Inv X pins σ H' s' ∧ RelV y w ∧ Ext F H F' H' ∧ Rep X.K F' y kd) (fun _ _ => False) s
noncomputable def shOf : Option Rt → Option D
  | some (.sh d) => some d
  | some (.fr es) => some (.lst es)
  | _ => none
theorem keyAt_fn {X : Cx} {k : Nat} {f : Addr} {fd : FuncData} {p : Str} {m : MF} (F : FnOk X.prog X.w X.K X.mg X.base CX0 k f fd [p] (spR X.K 1 m)) (hr : Room k X.A.in1) (hb : Binds X.K fd [p] []) : KeyAt X (.ref f) (fun d => shOf (m [d])) := by
  intro pins σ H Fh s x u d kd I sf r rx hm
  have hm : shOf (m [d]) = some kd := hm
  have sp : spR X.K 1 m [x] H (fun v H' => ∃ F', Ext Fh H F' H' ∧ Rep X.K F' v kd) E0 := by
    cases h : m [d] with
    | none => rw [h] at hm; cases hm
    | some t =>
      rw [h] at hm
      cases t with
      | sh g => cases hm; exact ⟨rfl, Fh, [d], _, sf, .cons r .nil, h, fun v F' H' x' r' => ⟨F', x', r'⟩⟩
      | fr gs => cases hm; exact ⟨rfl, Fh, [d], _, sf, .cons r .nil, h, fun q xs F' H' x' hp hF hH rs => ⟨upd F' q (.lst xs), x'.freeze hF hp hH, .lst (SqL.of upd_same) (rs.mono ((Same.refl F').put hF))⟩⟩
      | pr _ _ => cases hm
  have e0 := I.env0
  have env : Env0 X.prog X.w X.K X.mg X.base X.A.in1 X.stack s H := ⟨e0.frames, e0.mod, e0.bs, e0.bsz, e0.funs, e0.frf, e0.hok, e0.bare⟩
  refine wpAny_call (codeAny_mono (F.run X.A.in1 X.stack s H ⟨[u], []⟩ [u] [x] _ E0 hr env (hb s [u] I.kIn rfl) (.cons rx .nil) sp) fun r s' hq => ?_)
  cases r with
  | error e => exact hq.elim
  | ok fl =>
    cases fl with
    | ret v =>
      obtain ⟨y, H', I', ry, F', x', r'⟩ := I.after hq
      exact ⟨y, F', H', I', ry, x', r'⟩
    | next => exact hq.elim
    | brk => exact hq.elim
    | cont => exact hq.elim
noncomputable def minF (mk : D → Option D) : List D → D → D → Option D
  | [], b, _ => some b
  | d :: ds, b, kb => match mk d with
    | some kd => (match ltF 8 kd kb with | some true => minF mk ds d kd | some false => minF mk ds b kb | none => none)
    | none => none
section
variable {X : Cx} {pins : List (Addr × Obj)} {σ : St}
theorem FpOk.now {H H' : Hp} {b : Addr} (h : FpOk X pins H b) (hn : H' b = none) : FpOk X pins H' b := ⟨hn, h.2⟩
theorem Inv.pin2 {H : Hp} {s : Shared} {a b : Addr} {oa ob : Obj} (I : Inv X pins σ H s) (ha : FpOk X pins H a) (hb : FpOk X pins H b) (ea : s.heap.get? a = some oa) (eb : s.heap.get? b = some ob) (da : ∀ v, oa.data ≠ .cell v) (db : ∀ v, ob.data ≠ .cell v) : Inv X (pins ++ [(a, oa), (b, ob)]) σ H s :=
  I.pins_of fun p hp => by
    rcases List.mem_append.mp hp with hp | hp
    · exact I.pin p (List.mem_append_right _ hp)
    · simp only [List.mem_cons, List.not_mem_nil, or_false] at hp
      rcases hp with rfl | rfl
      · exact ⟨ea, ha.1, ha.2.1, ha.2.2.1, da⟩
      · exact ⟨eb, hb.1, hb.2.1, hb.2.2.1, db⟩
set_option maxHeartbeats 8000000 in
theorem min_loop {q : Addr} {mk : D → Option D} (hk : KeyAt X (.ref q) mk) (hc : X.calm = true) (hu : X.A.units + 64 < cLine) {l I S : Addr} {xs : List V} {ds : List D} {kw : List (Str × Value)} {dm : D} (hIS : I ≠ S) (hlI : l ≠ I) (hlS : l ≠ S) :
    ∀ (r j : Nat) (H F H0 F0 : Hp) (s : Shared) (xb yb : V) (vb kb : Value) (db kdb : D) (c : Nat) (R : Result → Shared → Prop),
      ds.length - (j + 1) = r → j + 1 ≤ ds.length → Inv X pins σ H s → Ext F0 H0 F H → SqL X.K H l xs → Reps X.K F xs ds → s.heap.IsListIter I l (j + 1) → s.heap.get? S = some (seqObj "list" #[vb, kb] c) → FpOk X pins H I → FpOk X pins H S →
      RelV xb vb → Rep X.K F xb db → RelV yb kb → Rep X.K F yb kdb → minF mk (ds.drop (j + 1)) db kdb = some dm →
      (∀ x v F' H' s', Inv X pins σ H' s' → RelV x v → Ext F0 H0 F' H' → Rep X.K F' x dm → R (.ok (.ret v)) s') →
      codeAny (model X.prog X.w) X.A (.builtin "min.loop" ⟨[.ref I, .ref q, .ref S], kw⟩) R s := by
  have hname : (toString "min" ++ toString ".loop" : String) = "min.loop" := by decide
  intro r
  induction r with
  | zero =>
    intro j H F H0 F0 s xb yb vb kb db kdb c R hr hj I' ext sq rs hit hS fI fS rb pb ry py hm hR
    have hin : j + 1 = ds.length := by omega
    obtain ⟨its, vr, pl, _⟩ := I'.list sq
    have zl : its.length = ds.length := by rw [← vr.length, rs.length]
    rw [hin, List.drop_length] at hm
    have hm : some db = some dm := hm
    cases hm
    refine codeAny_builtin PySem.F.entry_min_loop ?_
    rw [Around.under_plainId PySem.F.plain_min_loop _]
    show wpAny _ X.A.in1 (seqItems? (.ref S) >>= _) _ _ _
    refine wpAny_bind (wpAny_seqItems hS rfl ?_)
    show wpAny _ X.A.in1 (tryCatch (pyNext (.ref I)) _ >>= _) _ _ _
    refine wpAny_bind (wpAny_tryCatch (wpAny_pyNext_list_end (I'.ok.hd hc) hit pl.isList (by simp; omega) fun h' hk' => ?_))
    have hS' : h'.get? S = some (seqObj "list" #[vb, kb] c) := hk' S _ (Ne.symm hIS) hS
    have s1 := Heap.SameBut.update h' S (Obj.mapSeq fun _ => (#[] : Array Value))
    show wpAny _ X.A.in1 (updateSeq S (fun _ => #[]) >>= _) _ _ _
    refine wpAny_bind ?_
    refine wpAny_updateSeq hS' rfl (wpAny_bind (wpAny_letGo (wpAny_pure ?_)))
    have I9 : Inv X pins σ H { s with heap := h'.update S (Obj.mapSeq fun _ => (#[] : Array Value)), toks := s.toks } := I'.turnedL (fp := [I, S]) (t' := s.toks) (fun b o hb e => by
      simp only [List.mem_cons, List.not_mem_nil, or_false, not_or] at hb
      exact (s1.2 b hb.2).trans (hk' b o hb.1 e)) (fun b hb => by
      simp only [List.mem_cons, List.not_mem_nil, or_false] at hb
      rcases hb with rfl | rfl <;> assumption)
    exact hR xb vb F H _ I9 rb ext pb
  | succ r ih =>
    intro j H F H0 F0 s xb yb vb kb db kdb c R hr hj I' ext sq rs hit hS fI fS rb pb ry py hm hR
    have hlt : j + 1 < ds.length := by omega
    obtain ⟨its, vr, pl, _⟩ := I'.list sq
    have zl : its.length = ds.length := by rw [← vr.length, rs.length]
    obtain ⟨d, hd⟩ : ∃ d, ds[j + 1]? = some d := ⟨_, List.getElem?_eq_getElem hlt⟩
    obtain ⟨x, hx, px⟩ := rs.get hd
    obtain ⟨v, hv, rx⟩ := vr.get hx
    rw [drop_get hd] at hm
    unfold minF at hm
    cases hkd : mk d with
    | none => rw [hkd] at hm; cases hm
    | some kd =>
      rw [hkd] at hm
      dsimp only at hm
      refine codeAny_builtin PySem.F.entry_min_loop ?_
      rw [Around.under_plainId PySem.F.plain_min_loop _]
      show wpAny _ X.A.in1 (seqItems? (.ref S) >>= _) _ _ _
      refine wpAny_bind (wpAny_seqItems hS rfl ?_)
      show wpAny _ X.A.in1 (tryCatch (pyNext (.ref I)) _ >>= _) _ _ _
      refine wpAny_bind (wpAny_tryCatch (wpAny_pyNext_list_item hit pl.isList (by simpa using hv) fun h1 hit1 s1 => ?_))
      have I1 : Inv X pins σ H { s with heap := h1, toks := s.toks } := I'.turnedL (fp := [I]) (fun b o hb e => s1.extBut b o (by simpa using hb) e) (fun b hb => by rw [List.mem_singleton.mp hb]; exact fI)
      have hS1 : h1.get? S = some (seqObj "list" #[vb, kb] c) := s1.extBut _ _ (Ne.symm hIS) hS
      obtain ⟨oI, eI, cI, dI⟩ := id hit1
      have Ip := I1.pin2 fI fS eI hS1 (fun v z => by rw [dI] at z; cases z) (fun v z => by cases z)
      show wpAny _ X.A.in1 (tryCatch (holding [v] (call (.ref q) [v])) _ >>= _) _ _ _
      refine wpAny_bind (wpAny_tryCatch (wpAny_holding (wpAny_mono (hk (pins ++ [(I, oI), (S, seqObj "list" #[vb, kb] c)]) σ H F _ x v d kd Ip ext.fh px rx hkd) (fun w s2 hw => ?_) fun _ _ z => z.elim)))
      obtain ⟨y, F2, H2, I2, rw2, x2, py2⟩ := hw
      have pI := I2.pin (I, oI) (by simp)
      have pS := I2.pin (S, seqObj "list" #[vb, kb] c) (by simp)
      have I2' : Inv X pins σ H2 s2 := I2.unpinned
      have fI2 : FpOk X pins H2 I := fI.now pI.2.1
      have fS2 : FpOk X pins H2 S := fS.now pS.2.1
      have hit2 : s2.heap.IsListIter I l (j + 1 + 1) := ⟨oI, pI.1, cI, dI⟩
      cases hlt8 : ltF 8 kd kdb with
      | none => rw [hlt8] at hm; cases hm
      | some bt =>
        rw [hlt8] at hm
        have hcmp := lt_at I2' 8 (A := X.A.in1) (by show X.A.units + 1 + 8 < cLine; omega) (py2.mono x2.fh) ((py.mono x2.ff).mono x2.fh) rw2 ry hlt8
        show wpAny _ X.A.in1 (tryCatch (holding [v, w] (richCompare .Lt w kb >>= _)) _ >>= _) _ _ _
        refine wpAny_bind (wpAny_tryCatch (wpAny_holding (wpAny_bind (hcmp X.prog X.w _ _ ?_))))
        refine wpAny_bind (wpAny_holding (wpAny_truthy_bool ?_))
        refine wpAny_bind (wpAny_letGo (wpAny_pure ?_))
        cases bt with
        | true =>
          have s3 := Heap.SameBut.update s2.heap S (Obj.mapSeq fun _ => #[v, w])
          obtain ⟨c2, hc2⟩ : ∃ c2, (s2.heap.update S (Obj.mapSeq fun _ => #[v, w])).get? S = some (seqObj "list" #[v, w] c2) := ⟨_, get?_update_seq pS.1 fun _ => #[v, w]⟩
          simp only [if_true]
          refine wpAny_bind ?_
          refine wpAny_updateSeq pS.1 rfl (wpAny_bind (wpAny_letGo ?_))
          rw [hname]
          have I3 : Inv X pins σ H2 { s2 with heap := s2.heap.update S (Obj.mapSeq fun _ => #[v, w]), toks := s2.toks } := I2'.turnedL (fp := [S]) (fun b o hb e => (s3.2 b (by simpa using hb)).trans e) (fun b hb => by rw [List.mem_singleton.mp hb]; exact fS2)
          refine wpAny_pure ⟨plainId_quiet PySem.F.plain_min_loop _, ih (j + 1) H2 F2 H0 F0 _ x y v w d kd c2 R (by omega) hlt I3 (ext.trans x2) (x2.hh.seq sq) (rs.mono x2.ff) ⟨oI, (s3.2 I hIS).trans pI.1, cI, dI⟩ hc2 fI2 fS2 rx (px.mono x2.ff) rw2 py2 hm hR⟩
        | false =>
          simp only [Bool.false_eq_true, if_false]
          refine wpAny_bind (wpAny_letGo ?_)
          rw [hname]
          refine wpAny_pure ⟨plainId_quiet PySem.F.plain_min_loop _, ih (j + 1) H2 F2 H0 F0 _ xb yb vb kb db kdb c R (by omega) hlt I2' (ext.trans x2) (x2.hh.seq sq) (rs.mono x2.ff) hit2 pS.1 fI2 fS2 rb (pb.mono x2.ff) ry (py.mono x2.ff) hm hR⟩
end
end L2

set_option Elab.async false
set_option linter.all false
set_option maxRecDepth 100000
namespace L2
open PySem PySem.Spec PyProof.Rows
theorem args_min_kd (a v u : Value) : argsOk "min" ⟨[a], [(Str.ofString "key", v), (Str.ofString "default", u)]⟩ := by unfold argsOk; kernel_rfl
noncomputable def minD (mk : D → Option D) (ds : List D) (d0 : D) : Option D := match ds with
  | [] => some d0
  | d :: ds => (match mk d with | some kd => minF mk ds d kd | none => none)
section
variable {X : Cx} {pins : List (Addr × Obj)} {σ : St}
set_option maxHeartbeats 8000000 in
theorem min_top {q : Addr} {mk : D → Option D} (hk : KeyAt X (.ref q) mk) (hc : X.calm = true) (hu : X.A.units + 64 < cLine) {l : Addr} {xs : List V} {ds : List D} {dm d0 : D} {H F : Hp} {s : Shared} {x0 : V} {v0 : Value} {E : Value → Shared → Prop} {Q : Value → Shared → Prop}
    (I : Inv X pins σ H s) (sf : Same F H) (sq : SqL X.K H l xs) (rs : Reps X.K F xs ds) (r0 : RelV x0 v0) (p0 : Rep X.K F x0 d0) (hm : minD mk ds d0 = some dm)
    (hQ : ∀ x v F' H' s', Inv X pins σ H' s' → RelV x v → Ext F H F' H' → Rep X.K F' x dm → Q v s') :
    wpAny (model X.prog X.w) X.A (call (.builtin "min") [.ref l] [(Str.ofString "key", .ref q), (Str.ofString "default", v0)]) Q E s := by
  have hname : (toString "min" ++ toString ".loop" : String) = "min.loop" := by decide
  obtain ⟨its, vr, pl, _⟩ := I.list sq
  have hls := pl.isList
  obtain ⟨ol, hol, _⟩ := id hls
  have hll : l < s.heap.objs.size := Heap.lt_size hol
  refine kmk_tree PySem.F.kind_min PySem.F.plain_min PySem.F.entry_min (args_min_kd _ _ _) ?_
  show wpAny _ X.A.in1 (Builtin.Builtins.bindParams "min" ["key", "default"] 0 ⟨[], [(Str.ofString "key", .ref q), (Str.ofString "default", v0)]⟩ >>= _) _ _ s
  refine wpAny_bind (wpAny_of_eq (show Builtin.Builtins.bindParams "min" ["key", "default"] 0 ⟨[], [(Str.ofString "key", .ref q), (Str.ofString "default", v0)]⟩ = pure [some (.ref q), some v0] from rfl) ?_)
  refine wpAny_bind (wpAny_pure ?_)
  refine wpAny_bind (wpAny_pyIter_list hls ?_)
  refine wpAny_bind (wpAny_newList ?_ (Nat.zero_le _))
  rw [hname]
  refine wpAny_pure ⟨plainId_quiet PySem.F.plain_min_loop _, ?_⟩
  generalize hIo : ({ cls := .type "list_iterator", data := .fields #[.ref l, .int 0 0] } : Obj) = oI0
  have hS : (s.heap.push oI0).objs.size = s.heap.objs.size + 1 := size_push' ..
  have hlI : l ≠ s.heap.objs.size := Nat.ne_of_lt hll
  have hlS : l ≠ (s.heap.push oI0).objs.size := by rw [hS]; exact Nat.ne_of_lt (Nat.lt_succ_of_lt hll)
  have hIS : s.heap.objs.size ≠ (s.heap.push oI0).objs.size := by rw [hS]; exact Nat.ne_of_lt (Nat.lt_succ_self _)
  have gI : ((s.heap.push oI0).push (seqObj "list" #[] 0)).get? s.heap.objs.size = some oI0 := Heap.get?_push_of_some _ (Heap.get?_push_size _ (by rw [← hIo]; rfl))
  have gS : ((s.heap.push oI0).push (seqObj "list" #[] 0)).get? (s.heap.push oI0).objs.size = some (seqObj "list" #[] 0) := Heap.get?_push_size _ rfl
  have fI : FpOk X pins H s.heap.objs.size := I.fpOk (Nat.le_refl _) (I.hok.fresh (Nat.le_refl _))
  have fS : FpOk X pins H (s.heap.push oI0).objs.size := I.fpOk (by rw [hS]; exact Nat.le_succ _) (I.hok.fresh (by rw [hS]; exact Nat.le_succ _))
  have I0 : Inv X pins σ H { s with heap := (s.heap.push oI0).push (seqObj "list" #[] 0), toks := s.toks } := I.turnedL (fp := []) (fun b o _ e => Heap.get?_push_of_some _ (Heap.get?_push_of_some _ e)) (fun b hb => by cases hb)
  generalize (s.heap.push oI0).objs.size = S at *
  generalize hI : s.heap.objs.size = J at *
  generalize (s.heap.push oI0).push (seqObj "list" #[] 0) = h0 at *
  have hit : h0.IsListIter J l 0 := ⟨_, gI, by rw [← hIo], by rw [← hIo]; rfl⟩
  have zl : its.length = ds.length := by rw [← vr.length, rs.length]
  obtain ⟨its', vr', pl', _⟩ := I0.list sq
  have zl' : its'.length = ds.length := by rw [← vr'.length, rs.length]
  refine codeAny_builtin PySem.F.entry_min_loop ?_
  rw [Around.under_plainId PySem.F.plain_min_loop _]
  show wpAny _ X.A.in1 (seqItems? (.ref S) >>= _) _ _ _
  refine wpAny_bind (wpAny_seqItems gS rfl ?_)
  show wpAny _ X.A.in1 (tryCatch (pyNext (.ref J)) _ >>= _) _ _ _
  cases ds with
  | nil =>
    have hm : some d0 = some dm := hm
    cases hm
    refine wpAny_bind (wpAny_tryCatch (wpAny_pyNext_list_end (I.ok.hd hc) hit pl'.isList (by simp at zl' ⊢; simp [zl']) fun h' hk' => ?_))
    refine wpAny_bind (wpAny_rule (wpAny_pure ?_))
    have I9 := I0.turnedL (h' := h') (fp := [J]) (t' := s.toks) (fun b o hb e => hk' b o (by simpa using hb) e) (fun b hb => by rw [List.mem_singleton.mp hb]; exact fI)
    exact hQ x0 v0 F H _ I9 r0 (Ext.refl sf) p0
  | cons d ds =>
    obtain ⟨x, hx, px⟩ := rs.get (i := 0) (d := d) rfl
    obtain ⟨v, hv, rx⟩ := vr'.get hx
    unfold minD at hm
    dsimp only at hm
    cases hkd : mk d with
    | none => rw [hkd] at hm; cases hm
    | some kd =>
      rw [hkd] at hm
      dsimp only at hm
      refine wpAny_bind (wpAny_tryCatch (wpAny_pyNext_list_item hit pl'.isList (by simpa using hv) fun h1 hit1 s1 => ?_))
      have I1 := I0.turnedL (h' := h1) (t' := s.toks) (fp := [J]) (fun b o hb e => s1.extBut b o (by simpa using hb) e) (fun b hb => by rw [List.mem_singleton.mp hb]; exact fI)
      have hS1 : h1.get? S = some (seqObj "list" #[] 0) := s1.extBut _ _ (Ne.symm hIS) gS
      obtain ⟨oI, eI, cI, dI⟩ := id hit1
      have Ip := I1.pin2 fI fS eI hS1 (fun v z => by rw [dI] at z; cases z) (fun v z => by cases z)
      show wpAny _ X.A.in1 (tryCatch (holding [v] (call (.ref q) [v])) _ >>= _) _ _ _
      refine wpAny_bind (wpAny_tryCatch (wpAny_holding (wpAny_mono (hk (pins ++ [(J, oI), (S, seqObj "list" #[] 0)]) σ H F _ x v d kd Ip sf px rx hkd) (fun w s2 hw => ?_) fun _ _ z => z.elim)))
      obtain ⟨y, F2, H2, I2, rw2, x2, py2⟩ := hw
      have pI := I2.pin (J, oI) (by simp)
      have pS := I2.pin (S, seqObj "list" #[] 0) (by simp)
      have I2' : Inv X pins σ H2 s2 := I2.unpinned
      have fI2 : FpOk X pins H2 J := fI.now pI.2.1
      have fS2 : FpOk X pins H2 S := fS.now pS.2.1
      have s3 := Heap.SameBut.update s2.heap S (Obj.mapSeq fun _ => #[v, w])
      obtain ⟨c2, hc2⟩ : ∃ c2, (s2.heap.update S (Obj.mapSeq fun _ => #[v, w])).get? S = some (seqObj "list" #[v, w] c2) := ⟨_, get?_update_seq pS.1 fun _ => #[v, w]⟩
      show wpAny _ X.A.in1 (updateSeq S (fun _ => #[v, w]) >>= _) _ _ _
      refine wpAny_bind (wpAny_updateSeq pS.1 rfl ?_)
      rw [hname]
      have I3 : Inv X pins σ H2 { s2 with heap := s2.heap.update S (Obj.mapSeq fun _ => #[v, w]), toks := s2.toks } := I2'.turnedL (fp := [S]) (fun b o hb e => (s3.2 b (by simpa using hb)).trans e) (fun b hb => by rw [List.mem_singleton.mp hb]; exact fS2)
      refine wpAny_pure ⟨plainId_quiet PySem.F.plain_min_loop _, min_loop hk hc hu (ds := d :: ds) (dm := dm) hIS hlI hlS _ 0 H2 F2 H F _ x y v w d kd c2 _ rfl (by simp) I3 x2 (x2.hh.seq sq) (rs.mono x2.ff) ⟨oI, (s3.2 J hIS).trans pI.1, cI, dI⟩ hc2 fI2 fS2 rx (px.mono x2.ff) rw2 py2 hm fun x v F' H' s' a b c d => hQ x v F' H' s' a b c d⟩

@[irreducible] noncomputable def mminK (mk : D → Option D) (m : ML) (md : ME) : ME := fun ρ => (m ρ).bind fun ds => (md ρ).bind fun d0 => minD mk ds d0
theorem mminK_some {mk : D → Option D} {m : ML} {md : ME} {ρ : Ro} {g : D} (h : mminK mk m md ρ = some g) : ∃ ds d0, m ρ = some ds ∧ md ρ = some d0 ∧ minD mk ds d0 = some g := by
  unfold mminK at h
  cases h1 : m ρ with
  | none => rw [h1] at h; cases h
  | some d =>
    cases h2 : md ρ with
    | none => rw [h1, h2] at h; cases h
    | some e => rw [h1, h2] at h; exact ⟨d, e, rfl, rfl, h⟩
theorem mminK_ev {mk : D → Option D} {m : ML} {md : ME} {ρ : Ro} {ds : List D} {d0 : D} (h1 : m ρ = some ds) (h2 : md ρ = some d0) : mminK mk m md ρ = minD mk ds d0 := by
  unfold mminK
  rw [h1, h2]; rfl
theorem pd_minK {q : Addr} {mk : D → Option D} {x : Str} {p pf kp kp2 pos : Pos} {e ed : Expr} {m : ML} {md : ME} (hk : KeyAt X (.ref q) mk) (hc : X.calm = true) (hu : X.A.units + 64 < cLine) (hg : Gl X "min") (hm : X.mg "min" = none) (hgf : Gl X x) (hmf : X.mg x = some (.ref q)) (ha : PB X e m) (hd : PD X ed md)
    (hdb : (x == ("__debug__" : Str)) = false := by decide) (hs : starEach (e :: []) X.env = (false, eval e X.env) :: starEach [] X.env := by rfl) :
    PD X (.Call (.Name "min" p) [e] [⟨some "key", .Name x pf, kp⟩, ⟨some "default", ed, kp2⟩] pos) (mminK mk m md) := by
  intro pins s σ H Q I h
  obtain ⟨F0, H0, F, ρ, g, rl, em, q0⟩ := h
  obtain ⟨ds, d0, h1, h2, h3⟩ := mminK_some em
  refine wpAny_Call_Name_kw (ld_blt I hg hm PyProof.Rows.boot_min ?_ (by decide) (by decide))
  have A := pa_cons ha pa_nil hs pos pins s σ H (fun vs H1 => ∃ p xs F1, vs = [.ref p] ∧ Ext F H F1 H1 ∧ SqL X.K H1 p xs ∧ Reps X.K F1 xs ds) I ⟨F0, H0, F, ρ, ds, rl, h1, fun p xs F1 H1 x1 s1 r1 => ⟨p, xs, F1, rfl, x1, s1, r1⟩⟩
  refine callWith_kw (thn A fun us s1 hpat => ?_) (by rw [hs]; rfl) (by rw [hs]; rfl)
  obtain ⟨vs, H1, I1, r1, p, xs, F1, ev, x1, sq, rs⟩ := hpat
  subst ev
  obtain ⟨u, rfl, ru⟩ := vals1 r1
  cases ru
  have B := pk_cons (nm := some "key") (kpos := kp) (pe_glob (v := .ref q) (pos := pf) hgf hmf rfl hdb) (pk_cons (nm := some "default") (kpos := kp2) hd pk_nil) pos pins s1 σ H1 (fun vs H2 => ∃ y F2, vs = [.ref q, y] ∧ Ext F1 H1 F2 H2 ∧ Rep X.K F2 y d0) I1 ⟨F0, H0, F1, ρ, d0, rl.go x1, h2, fun y F2 H2 x2 r2 => ⟨y, F2, rfl, x2, r2⟩⟩
  refine thn B fun us s2 hpat => ?_
  obtain ⟨vs, H2, I2, r2, y, F2, ev, x2, p0⟩ := hpat
  subst ev
  obtain ⟨u1, u2, rfl, ru1, ru2⟩ := vals2 r2
  cases ru1
  exact min_top hk hc hu I2 x2.fh (x2.hh.seq sq) (rs.mono x2.ff) ru2 p0 h3 fun x v F' H' s' I' rx x3 px => ⟨x, H', I', rx, q0 x F' H' ((x1.trans x2).trans x3) px⟩
end
end L2

set_option Elab.async false
set_option linter.all false
set_option maxRecDepth 100000
namespace L2
open PySem PySem.Spec PyProof.Rows
section
variable {prog : Program} {w : World} {A : Around} {E : Value → Shared → Prop} {s : Shared}
theorem sub_rit_reversed : isSubtype (.type "range_iterator") (.type "reversed") = pure false := by rw [isSubtype_type]; kernel_rfl
noncomputable def ritObj (x left step : Int) : Obj := { cls := .type "range_iterator", dict := none, data := .fields #[rawInt x, rawInt left, rawInt step], slots := #[] }
theorem call_range_reversed {l : Addr} {j : Int} {t u v : Tok} {Q : Value → Shared → Prop} (hl : IsRange s.heap l 0 j 1 t u v) (h1 : -(2 ^ 62) ≤ j) (h2 : j < 2 ^ 62)
    (h : Q (.ref s.heap.objs.size) { s with heap := s.heap.push (ritObj ((j.toNat : Int) - 1) j.toNat (-1)) }) : wpAny (model prog w) A (call (.builtin "range.__reversed__") [.ref l]) Q E s := by
  have hT : s.TypeIs (.ref l) "range" := ⟨_, hl, rfl⟩
  refine wpAny_call_entry F.slot_range_reversed hT F.entry_range_reversed ?_ (F.args_range_reversed_1 _)
  have hsz : Builtin.Range.rangeSize 0 j 1 = (j.toNat : Int) := by rw [rangeSize_one]; split <;> omega
  unfold Builtin.«range.__reversed__»
  refine wpAny_bind (wpAny_of_eq (a := Value.ref l) rfl ?_)
  unfold Builtin.Range.rangeFields
  refine wpAny_bind ?_
  refine wpAny_bind (wpAny_field hl rfl (x := .int 0 t) rfl ?_)
  refine wpAny_bind (wpAny_of_eq (a := some (0 : Int)) rfl ?_)
  refine wpAny_bind (wpAny_field hl rfl (x := .int j u) rfl ?_)
  refine wpAny_bind (wpAny_of_eq (a := some j) rfl ?_)
  refine wpAny_bind (wpAny_field hl rfl (x := .int 1 v) rfl ?_)
  refine wpAny_bind (wpAny_of_eq (a := some (1 : Int)) rfl ?_)
  refine wpAny_pure ?_
  dsimp only
  rw [hsz]
  have hsm : (Builtin.Range.rangeFitsLong 0 && Builtin.Range.rangeFitsLong j && Builtin.Range.rangeFitsLong 1 && Builtin.Range.rangeFitsLong (-1) && Builtin.Range.rangeFitsLong (0 - 1) && Builtin.Range.rangeFitsLong (j.toNat : Int)) = true := by
    simp only [Builtin.Range.rangeFitsLong, Bool.and_eq_true, decide_eq_true_eq]
    omega
  simp only [hsm, Bool.not_true, Bool.false_eq_true, if_false, if_true]
  have e : (0 : Int) + ((j.toNat : Int) - 1) * 1 = (j.toNat : Int) - 1 := by omega
  rw [e]
  exact wpAny_bind (wpAny_newObj_type (wpAny_pure ⟨_, rfl, h⟩))
theorem code_reversed_newR {l : Addr} {j : Int} {t u v : Tok} {Q₁ : Value → Shared → Prop} (hl : IsRange s.heap l 0 j 1 t u v) (h1 : -(2 ^ 62) ≤ j) (h2 : j < 2 ^ 62)
    (h : Q₁ (.ref s.heap.objs.size) { s with heap := s.heap.push (ritObj ((j.toNat : Int) - 1) j.toNat (-1)) }) :
    codeAny (model prog w) A (.call (.builtin "reversed.__new__") ⟨[.type "reversed", .ref l], []⟩) (wants Q₁ E) s := by
  have hT : s.TypeIs (.ref l) "range" := ⟨_, hl, rfl⟩
  refine codeAny_of_tree ?_
  show wpAny _ A.in1 (do checkBuiltinCall "reversed.__new__" ⟨[.type "reversed", .ref l], []⟩; again (.builtin "reversed.__new__" ⟨[.type "reversed", .ref l], []⟩)) _ _ s
  refine wpAny_bind (wpAny_of_eq (F.newCall_reversed_1 _) (wpAny_pure ⟨plainId_quiet F.plain_reversed_new _, codeAny_builtin F.entry_reversed_new ?_⟩))
  rw [Around.under_plainId F.plain_reversed_new _]
  unfold Builtin.«reversed.__new__»
  refine wpAny_bind (wpAny_of_eq (newClass_reversed _) ?_)
  try dsimp only
  refine wpAny_bind (wpAny_of_eq (a := ()) (by first | rfl | kernel_rfl) ?_)
  refine wpAny_bind (wpAny_of_eq (a := ()) (by first | rfl | kernel_rfl) ?_)
  try dsimp only
  refine wpAny_bind (wpAny_specialOf hT F.slot_range_reversed.lookup ?_)
  try dsimp only
  refine wpAny_bind (wpAny_of_eq (F.slot_range_reversed.bind _) ?_)
  try dsimp only
  first
  | rw [if_neg (show ¬ ((Value.builtin "range.__reversed__" == Value.none) = true) from Bool.false_ne_true)]
  | (show wpAny _ _ (if (Value.builtin "range.__reversed__" == Value.none) = true then _ else _) _ _ _; rw [if_neg (show ¬ ((Value.builtin "range.__reversed__" == Value.none) = true) from Bool.false_ne_true)])
  refine wpAny_bind (wpAny_rule ?_)
  refine wpAny_bind (m := runValue (.call (.builtin "range.__reversed__") ⟨[.ref l], []⟩)) (show wpAny _ _ (call (.builtin "range.__reversed__") [.ref l]) _ _ _ from call_range_reversed hl h1 h2 ?_)
  first
  | exact wpAny_pure h
  | exact wpAny_bind (wpAny_pure (wpAny_pure h))
theorem call_reversed_range {l : Addr} {j : Int} {t u v : Tok} {Q : Value → Shared → Prop} (hl : IsRange s.heap l 0 j 1 t u v) (h1 : -(2 ^ 62) ≤ j) (h2 : j < 2 ^ 62)
    (h : Q (.ref s.heap.objs.size) { s with heap := s.heap.push (ritObj ((j.toNat : Int) - 1) j.toNat (-1)) }) : wpAny (model prog w) A (call (.type "reversed") [.ref l]) Q E s := by
  refine callType_other (U := "range_iterator") (Q₁ := fun obj s₁ => obj = .ref s.heap.objs.size ∧ s₁ = { s with heap := s.heap.push (ritObj ((j.toNat : Int) - 1) j.toNat (-1)) }) (by decide +kernel) F.create_reversed ⟨_, _, F.mro_reversed⟩ F.made_reversed sub_rit_reversed (F.typeCall_reversed_1 _) (code_reversed_newR hl h1 h2 ⟨rfl, rfl⟩) ?_
  rintro obj s₁ ⟨rfl, rfl⟩
  exact ⟨⟨_, Heap.get?_push_size _ rfl, rfl⟩, h⟩
end
noncomputable def Itdn (hi : Int) (n : Nat) : It := ⟨fun i _ => i < n, fun i H x H' => H' = H ∧ x = .int (hi - i), fun i _ => n ≤ i⟩
theorem turn_down {P : Program} {w : World} {K : PySem.W.Frag} {tg : Expr} (it : Addr) (lo : Int) (n : Nat) : Turn P w K tg (Itdn lo n) [it] it (fun i h => IsRangeIter h it (lo + (i : Nat) * (-1)) ((n : Int) - (i : Nat)) (-1)) where
  mem := by simp
  obj := fun i h st b hb => by
    have e : b = it := by simpa using hb
    subst e
    exact ⟨_, st, fun v z => by
      have z' : Data.fields _ = Data.cell v := z
      cases z'⟩
  keep := fun i h h' st k => k it (by simp) _ st
  item := by
    intro X hP hw hK hc i pins s σ H E I hf st hg
    subst hP hw hK
    obtain ⟨f0, f1, f2, f3, f4, f5⟩ := hf it (by simp)
    have W := Walks.range (prog := X.prog) (w := X.w) (I.ok.hd hc) it lo (-1) n
    refine W.item i s _ _ hg st fun v h' tk hv st' kk => ?_
    obtain ⟨t, rfl⟩ := hv
    have I1 : Inv X pins σ H { s with heap := h', toks := tk } := I.turned (fun b o hb e => kk b o (by simpa using hb) e) f0 f1 f3 f4 f5
    refine ⟨_, rfl, go_of (s := { s with heap := h', toks := tk }) (n := "range_iterator") st' rfl rfl (by decide) ⟨.int (lo - i), H, I1, ⟨t, ?_⟩, ⟨rfl, rfl⟩, st', fun b hb => (hf b hb).1⟩⟩
    rw [show lo + (i : Int) * (-1) = lo - i by omega]
  done := by
    intro X hP hw hK hc i pins s σ H E I hf st hg
    subst hP hw hK
    obtain ⟨f0, f1, f2, f3, f4, f5⟩ := hf it (by simp)
    exact wpAny_pyNext_range_end (I.ok.hd hc) st (by have : n ≤ i := hg; omega) fun h' eb => ⟨rfl, I.turned (t' := s.toks) (fun b o hb e => eb b o hb e) f0 f1 f3 f4 f5⟩
  self := fun _ _ _ _ _ st h => wpAny_pyIter_rangeiter st h
section
variable {X : Cx}
noncomputable def downD (n : Nat) : List D := (List.range n).map fun (i : Nat) => D.int ((n : Int) - 1 - (i : Int))
theorem downD_length (n : Nat) : (downD n).length = n := by unfold downD; simp
theorem itd_down {K : PySem.W.Frag} {F : Hp} {n : Nat} : ItD K F (Itdn ((n : Int) - 1) n) (downD n) where
  go := fun i F1 H1 a b hi => by rw [downD_length] at hi; exact hi
  yld := fun i F1 H1 x H2 d a b e y => by
    obtain ⟨rfl, rfl⟩ := y
    unfold downD at e
    rw [List.getElem?_map] at e
    have hi : i < n := by
      rcases Nat.lt_or_ge i n with h | h
      · exact h
      · rw [List.getElem?_eq_none (by simpa using h)] at e; cases e
    rw [List.getElem?_range hi] at e
    cases e
    exact ⟨F1, .refl b, .int _⟩
  stop := fun F1 H1 a b => by rw [downD_length]; exact Nat.le_refl n
noncomputable def rngD : List D → Option (List D)
  | [.int j] => if okR j = true then some (downD j.toNat) else none
  | _ => none
theorem pid_revR1 {tg a : Expr} {m : ML} {p p2 pos pos2 : Pos} (hg : Gl X "reversed") (hm : X.mg "reversed" = none) (hg' : Gl X "range") (hm' : X.mg "range" = none) (ha : PAs X [a] m) (he : starEach [a] X.env = (false, eval a X.env) :: starEach [] X.env := by rfl)
    (hpl : ∀ pos, (backTo pos (starEach [] X.env)).any (·.1) = false := by intro _; rfl)
    (hs : starEach (Expr.Call (.Name "range" p2) [a] [] pos2 :: []) X.env = (false, eval (Expr.Call (.Name "range" p2) [a] [] pos2) X.env) :: starEach [] X.env := by rfl) :
    PId X tg (.Call (.Name "reversed" p) [.Call (.Name "range" p2) [a] [] pos2] [] pos) (mlist rngD m) := by
  intro pins s σ H R I h
  obtain ⟨F0, H0, F, ρ, its, rl, e, q⟩ := h
  obtain ⟨ds, h1, h2⟩ := mlist_some e
  have A := pa_cons (pe_callTy call_rng1 hg' hm' boot_range ha (by decide) (by decide) he (hpl _)) pa_nil hs pos pins s σ H (fun vs H1 => ∃ p j F1 H2, vs = [.ref p] ∧ ds = [.int j] ∧ H2 p = none ∧ H1 = upd H2 p (.rng 0 j) ∧ Ext F H F1 H2) I ⟨F0, H0, F, ρ, ds, rl, h1, fun vs F1 H1 x1 r1 => by
    unfold rngD at h2
    split at h2
    · rename_i j
      cases r1 with
      | cons r rr =>
        cases rr; cases r
        exact ⟨j, rfl, fun p hp => ⟨p, j, F1, H1, rfl, rfl, hp, rfl, x1⟩⟩
    · cases h2⟩
  refine Call_ (ld_blt I hg hm boot_reversed (PyProof.Rows.callWith_type1 (thn A fun us s1 hpat => ?_) hs (hpl _)))
  obtain ⟨vs, H1, I1, r1, q1⟩ := hpat
  obtain ⟨l, j, F1, H2, ev, ed, hn, eH, x1⟩ := q1
  subst ev ed eH
  obtain ⟨u, rfl, ru⟩ := vals1 r1
  cases ru
  have h2 : (if okR j = true then some (downD j.toNat) else none) = some its := h2
  split at h2
  case isFalse => cases h2
  rename_i hk
  cases h2
  unfold okR at hk
  simp only [Bool.and_eq_true, decide_eq_true_eq] at hk
  obtain ⟨t, u, v, eo⟩ := I1.hok l _ upd_same
  refine call_reversed_range (j := j) eo hk.1 hk.2 ?_
  have hit : IsRangeIter (s1.heap.push (ritObj ((j.toNat : Int) - 1) j.toNat (-1))) s1.heap.objs.size ((j.toNat : Int) - 1) j.toNat (-1) := Heap.get?_push_size _ rfl
  refine wpAny_pyIter_rangeiter hit ?_
  have x2 : Ext F H F1 (upd H2 l (.rng 0 j)) := x1.trans (Ext.own x1.fh hn)
  refine ⟨s1.heap.objs.size, [s1.heap.objs.size], _, _, _, rfl, I1.kept (t' := s1.toks) fun b o e => Heap.get?_push_of_some _ e, turn_down _ ((j.toNat : Int) - 1) j.toNat, ?_, fun b hb => ?_, q _ F1 _ x2 itd_down⟩
  · have e1 : ((j.toNat : Int) - 1) + ((0 : Nat) : Int) * (-1) = (j.toNat : Int) - 1 := by simp
    have e2 : ((j.toNat : Nat) : Int) - ((0 : Nat) : Int) = j.toNat := by simp
    show IsRangeIter _ _ (((j.toNat : Int) - 1) + ((0 : Nat) : Int) * (-1)) (((j.toNat : Nat) : Int) - ((0 : Nat) : Int)) (-1)
    rw [e1, e2]
    exact hit
  · have e : b = s1.heap.objs.size := by simpa using hb
    subst e
    exact I1.fpOk (Nat.le_refl _) (I1.hok.fresh (Nat.le_refl _))
end
end L2

set_option Elab.async false
set_option linter.all false
set_option maxRecDepth 100000
namespace L2
open PySem PySem.Spec PyProof.Rows
section
variable {X : Cx} {a b : Expr} {pos : Pos}
end
end L2

set_option Elab.async false
set_option linter.all false
set_option maxRecDepth 100000
namespace L2
open PySem PySem.Spec PyProof.Rows
section
variable {X : Cx} {e : Expr} {pos : Pos} {es : List Expr} {E : XK} {mf : MG} {st : Stmt} {na : MEm}
end
section
variable {X : Cx} {a b : Expr} {pos : Pos}
end
end L2

set_option Elab.async false
set_option linter.all false
set_option maxRecDepth 100000
namespace L2
open PySem PySem.Spec PyProof.Rows
section
variable {X : Cx} {pins : List (Addr × Obj)} {σ : St}
end
end L2

set_option Elab.async false
set_option linter.all false
set_option maxRecDepth 100000
namespace L2
open PySem PySem.Spec PyProof.Rows
section
variable {X : Cx} {pins : List (Addr × Obj)} {σ : St}
end
end L2

set_option Elab.async false
set_option linter.all false
set_option maxRecDepth 100000
namespace L2
open PySem PySem.Spec PyProof.Rows
section
variable {X : Cx} {pins : List (Addr × Obj)} {σ : St}
end
section
variable {X : Cx}
end
end L2

set_option Elab.async false
set_option linter.all false
set_option maxRecDepth 100000
namespace L2
open PySem PySem.Spec PyProof.Rows
section
variable {X : Cx} {pins : List (Addr × Obj)} {σ : St}
end
end L2

set_option Elab.async false
set_option linter.all false
set_option maxRecDepth 100000
namespace L2
open PySem PySem.Spec PyProof.Rows PySem.Builtin PySem.Builtin.Str

section
variable {X : Cx} {a b c e o : Expr} {ma mb mo : ME} {pos : Pos}
end
end L2

set_option Elab.async false
set_option linter.all false
set_option maxRecDepth 100000
namespace L2
open PySem PySem.Spec PyProof.Rows PySem.Builtin PySem.Builtin.Str

section
variable {X : Cx} {a b c e o : Expr} {ma mb mo : ME} {pos : Pos}
end
end L2

set_option Elab.async false
set_option linter.all false
set_option maxRecDepth 100000
namespace L2
open PySem PySem.Spec PyProof.Rows

theorem Ext.acc {F H F' H' : Hp} {p : Addr} {o : HO} (x : Ext F H F' H') (hp : H p = none) (hF : F' p = none) : Ext F H F' (upd H' p o) := ⟨x.ff, x.hh.put hp, x.fh.put hF, x.new, x.nf⟩
section
variable {X : Cx} {a b c e o : Expr} {ma mb mo : ME} {pos : Pos} {st : Stmt}
end
end L2

set_option Elab.async false
set_option linter.all false
set_option maxRecDepth 100000
namespace L2
open PySem PySem.Spec PyProof.Rows

section
variable {prog : Program} {w : World} {A : Around} {E : Value → Shared → Prop} {s : Shared} {l : Addr} {xs : Array (Int × Tok)}
end
section
variable {X : Cx} {a b c e o : Expr} {ma mb mo : ME} {pos : Pos} {st : Stmt}
end
section
variable {X : Cx} {a b c e : Expr} {na nb : MEm} {pos : Pos} {st : Stmt} {es : List Expr} {E : XK} {mf : MF} {m : MLm}
noncomputable abbrev MBm := Ro → Option (Bool × Ro)
end
end L2

set_option Elab.async false
set_option linter.all false
set_option maxRecDepth 100000
namespace L2
open PySem PySem.Spec PyProof.Rows

section
variable {X : Cx} {a b c e : Expr} {na nb : MEm} {pos : Pos} {st : Stmt} {es : List Expr} {m : MLm}
end
section
variable {X : Cx} {pos : Pos}
end
end L2

set_option Elab.async false
set_option linter.all false
set_option maxRecDepth 100000
namespace L2
open PySem PySem.Spec PyProof.Rows
section
variable {X : Cx} {e : Expr} {na : MEm} {pos : Pos} {st : Stmt} {es : List Expr} {m : ML} {mf : MG} {E : XK}
noncomputable def NoL (K : PySem.W.Frag) : Prop := ∀ p o, List.lookup p K = some o → o.cls ≠ .type "list"
noncomputable def noLb : PySem.W.Frag → Bool
  | [] => true
  | (_, o) :: r => (match o.cls with | .type c => c != "list" | _ => true) && noLb r
theorem NoL.of : ∀ {K : PySem.W.Frag}, noLb K = true → NoL K
  | [], _ => fun p o e => by cases e
  | (a, o') :: r, h => fun p o e z => by
    have h : ((match o'.cls with | .type c => c != "list" | _ => true) && noLb r) = true := h
    rw [Bool.and_eq_true] at h
    rw [List.lookup_cons] at e
    split at e
    · cases e
      rw [z] at h
      exact absurd h.1 (by decide)
    · exact NoL.of h.2 p o e z
open Classical in
end
end L2

set_option Elab.async false
set_option linter.all false
set_option maxRecDepth 100000
namespace L2
open PySem PySem.Spec PyProof.Rows
section
variable {X : Cx}
end
end L2

set_option Elab.async false
set_option linter.all false
set_option maxRecDepth 100000
namespace L2
open PySem PySem.Spec PyProof.Rows
section
variable {X : Cx} {e : Expr} {pos : Pos}
@[irreducible] noncomputable def many (m : ML) : ME := fun ρ => match m ρ with | some ds => (match intsD ds with | some ns => some (.bl (ns.any fun i => i != 0)) | none => none) | none => none
end
end L2

set_option Elab.async false
set_option linter.all false
set_option maxRecDepth 100000
namespace L2
open PySem PySem.Spec PyProof.Rows
section
variable {X : Cx} {e : Expr} {ma : ME} {pos : Pos}
end
end L2

set_option Elab.async false
set_option linter.all false
set_option maxRecDepth 100000
namespace L2
open PySem PySem.Spec PyProof.Rows
section
variable {X : Cx} {e : Expr} {ma : ME} {pos : Pos}
end
end L2

set_option Elab.async false
set_option linter.all false
set_option maxRecDepth 100000
namespace L2
open PySem PySem.Spec PyProof.Rows
noncomputable def IsRev (h : Heap) (a l : Addr) (k : Int) : Prop := ∃ o, h.get? a = some o ∧ o.cls = .type "list_reverseiterator" ∧ o.data = .fields #[.ref l, rawInt k]
section
variable {prog : Program} {w : World} {A : Around} {E : Value → Shared → Prop} {s : Shared}
theorem IsRev.ty {a l : Addr} {k : Int} (h : IsRev s.heap a l k) : s.TypeIs (.ref a) "list_reverseiterator" := by
  obtain ⟨o, e, c, d⟩ := h
  exact ⟨o, e, c⟩
end
section
variable {X : Cx}
end
end L2

set_option Elab.async false
set_option linter.all false
set_option maxRecDepth 100000
namespace L2
open PySem PySem.Spec PyProof.Rows
section
variable {X : Cx} {a : Expr} {na : MEm} {pos : Pos} {ca : MBm}
end
end L2

set_option Elab.async false
set_option linter.all false
set_option maxRecDepth 100000
namespace L2
open PySem PySem.Spec PyProof.Rows
section
variable {X : Cx} {a b : Expr} {m : ML} {pos : Pos}
end
end L2

set_option Elab.async false
set_option linter.all false
set_option maxRecDepth 100000
namespace L2
open PySem PySem.Spec PyProof.Rows PySem.W PySem.Builtin PySem.Builtin.ObjectAttr PySem.Builtin.Getset_descriptor

structure XCls (K : PySem.W.Frag) (C : Addr) : Prop where
  ga : findIn K (.ref C) "__getattribute__" = some (some (.builtin "BaseException.__getattribute__"))
  nog : findIn K (.ref C) "__getattr__" = some none
  cl : findIn K (.ref C) "__class__" = some (some (.builtin "object.__class__"))
  ob : mroIn K C (.type "object") = some true
  be : mroIn K C (.type "BaseException") = some true

section
variable {prog : Program} {w : World} {A : Around} {E : Value → Shared → Prop} {K : PySem.W.Frag} {x C : Addr} {ox : Obj} {h : Heap} {g : Array GenState} {d : Drawn} {t : Nat} {os : OsState}

theorem xc_get {tp : Value} {R : Result → Shared → Prop} (X : K.In h) (LT : ∀ M : Model, Looks M h (typeOf (.ref x)) (.ref C)) (hm : mroIn K C (.type "object") = some true)
    (hq : R (.ok (.ret (.ref C))) ⟨h, g, d, t, os⟩) : codeAny (model prog w) A (.call (.builtin "getset_descriptor.__get__") ⟨[.builtin "object.__class__", .ref x, tp], []⟩) R ⟨h, g, d, t, os⟩ := by
  have L0 := LT (model prog w)
  have L1 := looks_mroIn (M := model prog w) X hm
  refine codeAny_call_builtin F.slot_gs_get.plain F.entry_gs_get (F.slot_gs_get.check _ _ _ _ _ _ _ _ F.typeOf_object_class (F.args_gs_get _ _ tp) ?_)
  unfold Builtin.«getset_descriptor.__get__» descrGet
  rw [dga_obj]
  refine wpAny_bind (wpAny_pure ?_)
  unfold descrGetter; unfold descrCheckInstance; unfold descrNameAndClass isInstance
  simp only [KF.owner_class]
  repeat lk
  refine And.intro (Code.quiet_builtin _ (by decide +kernel)) (codeAny_builtin F.entry_object_class ?_)
  unfold Builtin.«object.__class__»; unfold shownTypeOf
  repeat lk
  exact hq

theorem xc_entry {tk : Tok} {Q : PySem.Fin → Shared → Prop} (Z : XCls K C) (X : K.In h) (LT : ∀ M : Model, Looks M h (typeOf (.ref x)) (.ref C)) (hq : Q (.done (.ret (.ref C))) ⟨h, g, d, t, os⟩) :
    wpAny (model prog w) A (Builtin.«object.__getattribute__» ⟨[.ref x, .str "__class__" tk], []⟩) Q E ⟨h, g, d, t, os⟩ := by
  have L0 := LT (model prog w)
  have L1 := looks_findIn (M := model prog w) X Z.cl
  have L2 : Looks (model prog w) h (typeOf (.builtin "object.__class__")) (.type "getset_descriptor") := Looks.of_pure F.typeOf_object_class
  have L3 : Looks (model prog w) h (typeLookup (.type "getset_descriptor") "__get__") (some (.builtin "getset_descriptor.__get__")) := Looks.of_pure F.slot_gs_get.lookup
  have L4 : Looks (model prog w) h (typeLookup (.type "getset_descriptor") "__set__") (some (.builtin "getset_descriptor.__set__")) := Looks.of_pure F.slot_gs_set.lookup
  repeat (first | with_reducible refine wpAny_call (xc_get X LT Z.ob ?_) | lk)
  exact hq

theorem xc_call {tk : Tok} {R : Result → Shared → Prop} (Z : XCls K C) (X : K.In h) (LT : ∀ M : Model, Looks M h (typeOf (.ref x)) (.ref C)) (hq : R (.ok (.ret (.ref C))) ⟨h, g, d, t, os⟩) :
    codeAny (model prog w) A (.call (.builtin "BaseException.__getattribute__") ⟨[.ref x, .str "__class__" tk], []⟩) R ⟨h, g, d, t, os⟩ := by
  have k1 : builtinKind "BaseException.__getattribute__" = some .slot := by decide +kernel
  have k2 : splitId "BaseException.__getattribute__" = some ("BaseException", "__getattribute__") := by decide +kernel
  have k3 := F.args_bexc_ga (.ref x) (.str "__class__" tk)
  have L0 := LT (model prog w)
  have L1 := looks_mroIn (M := model prog w) X Z.be
  refine codeAny_call_builtin (by decide +kernel) F.entry_bexc_ga ?_
  simp only [checkBuiltinCall, k1, k2]
  refine wpAny_bind ?_
  unfold isInstance
  refine wpAny_bind (L0.at (L1.at ?_))
  rw [if_neg (by decide)]
  exact wpAny_of_eq (a := ()) k3 (xc_entry Z X LT hq)

theorem xc_class {Q : Option Value → Shared → Prop} (Z : XCls K C) (X : K.In h) (LT : ∀ M : Model, Looks M h (typeOf (.ref x)) (.ref C)) (hq : Q (some (.ref C)) ⟨h, g, d, t + 1, os⟩) :
    wpAny (model prog w) A (getAttr? (.ref x) "__class__") Q E ⟨h, g, d, t, os⟩ := by
  have L0 := LT (model prog w)
  have L1 := looks_findIn (M := model prog w) X Z.ga
  have L2 := looks_findIn (M := model prog w) X Z.nog
  unfold getAttr? getAttrBy? getAttrBy
  refine wpAny_bind (wpAny_mkText (wpAny_bind (wpAny_attempt (wpAny_holding (wpAny_bind (L0.at (wpAny_bind (L1.at ?_))))))))
  dsimp only
  rw [if_neg (by intro z; rw [Bool.and_eq_true] at z; exact absurd z.2 (by decide))]
  unfold getAttrByItsOwn hookBefore
  rw [if_pos (by rfl)]
  refine wpAny_bind (L2.at (wpAny_bind (wpAny_attempt (wpAny_holding ?_))))
  unfold callGetattribute
  rw [if_neg (by decide)]
  unfold boundAndCalled
  have b1 : bindSpecial (.builtin "BaseException.__getattribute__") (.ref x) = pure (.builtin "BaseException.__getattribute__", [.ref x]) := F.attr_ValueError.ga.bind _
  refine wpAny_bind (wpAny_of_eq b1 (wpAny_call (xc_call Z X LT ?_)))
  exact handed_on rfl (wpAny_pure hq)

theorem XAt.looks {a C : Addr} (p : XAt a C h) (M : Model) : Looks M h (typeOf (.ref a)) (.ref C) := by
  obtain ⟨o, vs, h1, h2, _⟩ := p
  exact h2 ▸ (Looks.ld h1).andThen .now
theorem kitx_exc {a C : Addr} (Z : XCls K C) : KitX K (.ref a) (.ref C) (XAt a C) where
  ty := fun M h _ p => p.looks M
  it := fun M h X _ => by
    have q := Z.ob
    unfold mroIn at q
    cases hc : clsIn K C with
    | none => rw [hc] at q; cases q
    | some cd =>
      unfold clsIn at hc
      split at hc
      · rename_i c' d' cd' sl' ho
        intro A1 Q1 E1 s1 kk qq
        unfold isType loadHead
        exact wpAny_bind (wpAny_loadPart (kk _ _ (X C _ ho)) (wpAny_pure qq))
      · cases hc
  ne := fun h tp dd its n sl X htp => by
    refine Bool.eq_false_iff.mpr fun z => ?_
    have e : C = tp := Value.ref.inj (beq_iff_eq.mp z)
    subst e
    have q := Z.ob
    unfold mroIn at q
    cases hc : clsIn K C with
    | none => rw [hc] at q; cases q
    | some cd =>
      unfold clsIn at hc
      split at hc
      · rename_i c' d' cd' sl' ho
        cases (X _ _ ho).symm.trans htp
      · cases hc
  ca := fun {prog w A E Q s} X p hq => by
    obtain ⟨hh, g, d, t, os⟩ := s
    exact xc_class Z X p.looks hq
end
end L2
namespace L2
open PySem PySem.Spec PyProof.Rows

structure Flown (P : Program) (w : World) (outer : List Env) (H : Hp) (s : Shared) (H' : Hp) (B h' : Heap) : Prop where
  un : Un (frs outer) [] H H' s.heap h'
  ok : HOk P w H' h'
  st : B.StaysIn h'
  trk : ∀ b o, H' b = some o → ∃ ob, B.get? b = some ob
  old : ∀ b o, s.heap.get? b = some o → b ∉ frs outer → ∃ ob, B.get? b = some ob
noncomputable def CXx (P : Program) (w : World) : CXT := fun outer H s E ev s' => ∃ (e C : Addr) (a0 : Value) (H' : Hp) (B : Heap), ev = .ref e ∧ s'.os = s.os ∧ AllBare s'.gens ∧ Flown P w outer H s H' B s'.heap ∧
  Heap.FlyingW B outer e (.ref C) a0 s'.heap ∧ E (.ref C) none H'

section
variable {P : Program} {w : World} {outer : List Env} {H H' : Hp} {s : Shared} {B h1 h2 base : Heap}
theorem Flown.on (f : Flown P w outer H s H' B h1) (fr : h1.FunFrames base outer) (st : B.StaysIn h2) (up : h1.UpToSlots h2) : Flown P w outer H s H' B h2 := by
  have same : ∀ b o, h1.get? b = some o → (∃ ob, B.get? b = some ob) → h2.get? b = some o := fun b o e hpat => by
    obtain ⟨ob, eb⟩ := hpat
    have := f.st b ob eb
    rw [e] at this; cases this
    exact st b o eb
  have fslot : ∀ b o, b ∈ frs outer → h1.get? b = some o → ∃ sl, h2.get? b = some { o with slots := sl } := fun b o hb e => by
    obtain ⟨_, o', e', hd⟩ := fr.mem hb
    rw [e] at e'; cases e'
    exact up b o e hd
  refine ⟨⟨fun b o e n hb hx => same b o (f.un.keep b o e n hb hx) (f.old b o e hb), fun b o e n hb hx => ?_, f.un.free, fun b o e hx => ?_, f.un.tups, f.un.frzs, f.un.tbls⟩, fun b u e => ?_, st, f.trk, f.old⟩
  · obtain ⟨sl, e1⟩ := f.un.slot b o e n hb hx
    obtain ⟨sl2, e2⟩ := fslot b _ hb e1
    exact ⟨sl2, e2⟩
  · by_cases hb : b ∈ frs outer
    · obtain ⟨o1, e1⟩ := f.un.there b o e hx
      obtain ⟨sl2, e2⟩ := fslot b _ hb e1
      exact ⟨_, e2⟩
    · obtain ⟨ob, eb⟩ := f.old b o e hb
      exact ⟨ob, st b ob eb⟩
  · refine (f.ok b u e).stay (fun c v hc q => same c v q ?_) (fun _ q => q) fun _ _ q => q
    rcases hc with z | z
    · rw [z]; exact f.trk b u e
    · exact f.trk c _ z
end

structure Top (X : Cx) : Prop where
  stk : X.stack = X.env :: X.outer
  frm : X.env.frame = some X.env.locals
  ex : X.ex = []
section
variable {X : Cx} {pins : List (Addr × Obj)} {σ : St} {H H' : Hp} {s : Shared} {B h1 : Heap}
theorem Flown.inv {s' : Shared} (I : Inv X pins σ H s) (f : Flown X.prog X.w X.stack H s H' B s'.heap) (os : s'.os = s.os) (bare : AllBare s'.gens) : Inv X pins σ H' s' :=
  I.call' (ch := []) os f.un f.ok bare fun b z => absurd z (by simp)
theorem Flown.out {s' : Shared} (T : Top X) (I : Inv X pins σ H s) (f : Flown X.prog X.w X.stack H s H' B s'.heap) (os : s'.os = s.os) (bare : AllBare s'.gens) : Flown X.prog X.w X.outer X.H₀ X.s₀ H' B s'.heap := by
  have I' := f.inv I os bare
  refine ⟨by have := I'.base; rw [T.ex] at this; exact this, f.ok, f.st, f.trk, fun b o e hb => ?_⟩
  obtain ⟨o1, e1⟩ := I.base.there b o e (by rw [T.ex]; simp)
  refine f.old b o1 e1 fun z => ?_
  rcases List.mem_cons.mp (I.stkSub b z) with z | z
  · exact absurd (Nat.lt_of_lt_of_le (Heap.lt_size e) I.ok.above) (by rw [z]; exact Nat.lt_irrefl _)
  · exact hb z
end
theorem ObjOk.there {P : Program} {w : World} {H : Hp} {h : Heap} {a : Addr} {o : HO} (x : ObjOk P w H h a o) : ∃ ob, h.get? a = some ob := by
  cases o with
  | lst xs => obtain ⟨_, _, _, _, e⟩ := x; exact ⟨_, e⟩
  | tup xs => obtain ⟨_, _, _, ⟨_, e, _⟩⟩ := x; exact ⟨_, e⟩
  | dK kvs => obtain ⟨_, _, _, _, o, _, _, e, _⟩ := x; exact ⟨_, e⟩
  | dT kvs => obtain ⟨_, _, _, _, o, _, _, e, _⟩ := x; exact ⟨_, e⟩
  | set S n => obtain ⟨o, _, _, _, e, _⟩ := x; exact ⟨_, e⟩
  | ins C dx fs => obtain ⟨_, _, _, e, _⟩ := x; exact ⟨_, e⟩
  | own y => exact x
  | xd fs => obtain ⟨_, ⟨_, _, _, e, _⟩, _⟩ := x; exact ⟨_, e⟩
  | rng lo hi => obtain ⟨_, _, _, e⟩ := x; exact ⟨_, e⟩
  | frz ob u => exact ⟨_, x.1⟩
  | tbl ps => exact ⟨_, show h.get? a = some _ from x⟩
  | met f y => exact ⟨_, show h.get? a = some _ from x⟩
  | ext φ => exact x.2.1

noncomputable abbrev bmV : List Value := [.type "ValueError", .type "Exception", .type "BaseException", .type "object"]
theorem xobj {K : PySem.W.Frag} {h : Heap} {C : Addr} {bmB : List Value} {newId : String} (X : K.In h) (q : PySem.W.excIn K C bmB newId = true) :
    ∃ bm N nm qn bs hdct sn sub ab col dd k0 k1 k2 k3 k5 mN, h.get? C = some (excClassObj nm qn C N bs bm hdct sn sub ab col dd k0 k1 k2 k3 k5 newId) ∧ h.Ns N mN ∧ mN "__init__" = none ∧ OwnTail h bmB bm := by
  unfold PySem.W.excIn at q
  split at q
  · rename_i d1 cd sl ho
    split at q
    · rename_i C1 bm k0 k1 k2 k3 n1 k5 hm hs
      simp only [beq_iff_eq, Bool.not_eq_true', Bool.and_eq_true] at q
      obtain ⟨⟨⟨⟨⟨y1, y2⟩, y3⟩, y4⟩, y5⟩, y6⟩ := q
      subst y1 y2
      obtain ⟨a1, a2, a3, a4, a5, a6, a7, a8, a9, a10, a11⟩ := cd
      dsimp only at hm y3 y5 y6
      subst hm y3
      obtain ⟨l⟩ := sl
      have hl : l = [k0, k1, k2, k3, some (.builtin n1), k5] := hs
      subst hl
      exact ⟨bm, _, _, _, _, _, _, _, _, _, _, k0, k1, k2, k3, k5, _, X _ _ ho, .of_isNs (PySem.W.isNs_of_in X y5), PySem.W.nsMap_none_of_in X y5 y6, PySem.W.tail_of_in X y4⟩
    · cases q
  · cases q

noncomputable def XC (K : PySem.W.Frag) (c : Str) (C : Addr) : Prop := PySem.W.nsIn K mainGlobals c = some (some (.ref C)) ∧ xName K C = some c
noncomputable def RXp (X : Cx) (pins : List (Addr × Obj)) (W : Str → St → Hp → Prop) (ev : Value) (s3 : Shared) : Prop :=
  ∃ (e C : Addr) (a0 : Value) (σ' : St) (H1 : Hp) (s1 : Shared) (H' : Hp) (B : Heap) (c : Str), ev = .ref e ∧ Inv X pins σ' H1 s1 ∧ s3.os = s1.os ∧ AllBare s3.gens ∧ Flown X.prog X.w X.stack H1 s1 H' B s3.heap ∧
    Heap.FlyingW B X.stack e (.ref C) a0 s3.heap ∧ XC X.K c C ∧ W c σ' H'
noncomputable def RX (X : Cx) (pins : List (Addr × Obj)) (W : Str → St → Hp → Prop) (ev : Value) (s' : Shared) : Prop :=
  wpAny (model X.prog X.w) X.A (noteFrame ev X.env) (fun _ s2 => wpAny (model X.prog X.w) X.A (setFlight ev none) (fun _ s3 => RXp X pins W ev s3) noE s2) noE s'
section
variable {X : Cx} {pins : List (Addr × Obj)} {σ : St} {H : Hp} {s : Shared} {W : Str → St → Hp → Prop}
theorem rx_call {E : XK} {ev : Value} {s' : Shared} (T : Top X) (I : Inv X pins σ H s) (h : CXx X.prog X.w X.stack H s E ev s') (hE : ∀ v o H', E v o H' → ∃ c C, v = .ref C ∧ XC X.K c C ∧ W c σ H') : RX X pins W ev s' := by
  obtain ⟨e, C, a0, H', B, rfl, os, bare, f, fl, q⟩ := h
  obtain ⟨c, C', z, xc, w⟩ := hE _ _ _ q
  cases z
  have fr : X.A.frames = some (X.env :: X.outer) := by rw [← T.stk]; exact I.ok.frames
  have fl0 := fl
  rw [T.stk] at fl
  refine wpAny_looks_onW fr T.frm fl fun h1 hh up => ?_
  have f1 := f.on fl0.2.2.1 hh.1 up
  refine wpAny_landsW hh fun h2 fl2 up2 => ?_
  rw [← T.stk] at fl2 hh
  exact ⟨e, C, a0, σ, H, s, H', B, c, rfl, I, os, bare, f1.on hh.2.2.1 fl2.1 up2, fl2, xc, w⟩
theorem rx_made {e C : Addr} {c : Str} {us : List Value} {h1 : Heap} (T : Top X) (I : Inv X pins σ H s) (hm : Heap.MadeExcOf s.heap h1 e (.ref C) us) (xc : XC X.K c C) (q : W c σ H) : RX X pins W (.ref e) { s with heap := h1 } := by
  have fr : X.A.frames = some (X.env :: X.outer) := by rw [← T.stk]; exact I.ok.frames
  have hin : ∀ env ∈ X.stack, ∀ a, env.frame = some a → a ∈ frs X.stack := fun env he a ha => List.mem_filterMap.mpr ⟨env, he, ha⟩
  have ff := PySem.W.funFrames_hide I.stack hin
  have st0 : (PySem.W.hideAll s.heap (frs X.stack)).StaysIn s.heap := fun b o z => PySem.W.of_hideAll _ z
  have f0 : Flown X.prog X.w X.stack H s H (PySem.W.hideAll s.heap (frs X.stack)) s.heap :=
    ⟨Un.refl, I.hok, st0, fun b o z => (by
      obtain ⟨ob, eb⟩ := (I.hok b o z).there
      exact ⟨ob, PySem.W.hideAll_get _ eb fun y => by rw [I.stkFree b y] at z; cases z⟩), fun b o z hb => ⟨o, PySem.W.hideAll_get _ z hb⟩⟩
  obtain ⟨t, he, htn, ht⟩ := hm.there
  have ff' : s.heap.FunFrames (PySem.W.hideAll s.heap (frs X.stack)) (X.env :: X.outer) := by rw [← T.stk]; exact ff
  have en : (PySem.W.hideAll s.heap (frs X.stack)).get? e = none := by
    cases z : (PySem.W.hideAll s.heap (frs X.stack)).get? e with
    | none => rfl
    | some o => have := st0 e o z; rw [hm.new] at this; cases this
  have key : wpAny (model X.prog X.w) X.A (noteFrame (.ref e) X.env) (fun _ s2 => wpAny (model X.prog X.w) X.A (setFlight (.ref e) none) (fun _ s3 => RXp X pins W (.ref e) s3) noE s2) noE { s with heap := h1 } := by
    unfold noteFrame
    simp only [T.frm]
    refine wpAny_bind (wpAny_field (s := { s with heap := h1 }) (x := Value.none) he rfl (by rfl) ?_)
    rw [if_neg (by decide)]
    refine wpAny_newEntryW (s := { s with heap := h1 }) (a0 := .ref t) fr (ff'.of_keeps fun b o z _ => ⟨o, hm.keeps b o z, rfl⟩) T.frm he (fun b o z => hm.keeps b o (st0 b o z)) en rfl (by simp) (by rfl) fun h2 hL => ?_
    obtain ⟨k1, k2, k3, k4⟩ := hL
    rw [← T.stk] at k2
    exact ⟨e, C, .ref t, σ, H, s, H, _, c, rfl, I, rfl, I.bare, f0.on I.stack k1 ((Heap.UpToSlots.of_keeps hm.keeps).trans k4), ⟨k1, en, k2, k3⟩, xc, q⟩
  exact key
theorem rx_leaves {E : XK} {ev : Value} {s' : Shared} (T : Top X) (h : RX X pins (fun c _ H' => ∀ C, XC X.K c C → E (.ref C) none H') ev s') :
    wpAny (model X.prog X.w) X.A (leaving X.env ev) (fun _ s'' => CXx X.prog X.w X.outer X.H₀ X.s₀ E ev s'') (fun e' s'' => CXx X.prog X.w X.outer X.H₀ X.s₀ E e' s'') s' := by
  unfold leaving
  refine wpAny_bind (wpAny_mono h (fun _ s2 h2 => wpAny_mono h2 (fun _ s3 h3 => ?_) fun _ _ z => z.elim) fun _ _ z => z.elim)
  obtain ⟨e, C, a0, σ', H1, s1, H', B, c, rfl, I, os, bare, f, fl, xc, q⟩ := h3
  obtain ⟨l1, l2, l3, l4⟩ := fl
  rw [T.stk] at l3
  exact ⟨e, C, a0, H', B, rfl, by rw [os]; exact I.os, bare, f.out T I os bare, ⟨l1, l2, l3.2.2, l4⟩, q C xc⟩
end

noncomputable abbrev Cx.bear (X : Cx) (pins : List (Addr × Obj)) (E : Value → Shared → Prop) : Cx := { X with pn := X.pn ++ pins, xe := E }
section
variable {X : Cx} {pins pins' : List (Addr × Obj)} {σ : St} {H : Hp} {s : Shared} {E : Value → Shared → Prop}
theorem Cx.Ok.bear (ok : X.Ok) : (X.bear pins E).Ok := ⟨ok.mod, ok.kind, ok.glob, ok.blt, ok.above, ok.inj, ok.has, ok.cab, ok.hd, ok.frames, ok.stk, ok.exf, ok.bs, ok.bsz, ok.noex, ok.exfs, ok.funs, ok.frf⟩
theorem Cx.Ok.unbear (ok : (X.bear pins E).Ok) : X.Ok := ⟨ok.mod, ok.kind, ok.glob, ok.blt, ok.above, ok.inj, ok.has, ok.cab, ok.hd, ok.frames, ok.stk, ok.exf, ok.bs, ok.bsz, ok.noex, ok.exfs, ok.funs, ok.frf⟩
theorem Inv.bear (I : Inv X (pins ++ pins') σ H s) : Inv (X.bear pins E) pins' σ H s := ⟨I.ok.bear, I.os, I.bare, I.base, I.loc, I.cell, I.free, I.freeC, fun p hp => I.pin p (by rw [← List.append_assoc]; exact hp), I.hok, I.len⟩
theorem Inv.unbear (I : Inv (X.bear pins E) pins' σ H s) : Inv X (pins ++ pins') σ H s := ⟨I.ok.unbear, I.os, I.bare, I.base, I.loc, I.cell, I.free, I.freeC, fun p hp => I.pin p (by rw [← List.append_assoc] at hp; exact hp), I.hok, I.len⟩
theorem Inv.fewer (I : Inv X (pins ++ pins') σ H s) : Inv X pins σ H s := ⟨I.ok, I.os, I.bare, I.base, I.loc, I.cell, I.free, I.freeC, fun p hp => I.pin p (by rw [← List.append_assoc]; exact List.mem_append_left _ hp), I.hok, I.len⟩
theorem SP.bear {D : Ends} {f : Flow} {s' : Shared} (h : SP X (pins ++ pins') D f s') : SP (X.bear pins E) pins' D f s' := by
  cases f with
  | next => obtain ⟨σ', H', I, q⟩ := h; exact ⟨σ', H', I.bear, q⟩
  | brk => obtain ⟨σ', H', I, q⟩ := h; exact ⟨σ', H', I.bear, q⟩
  | cont => obtain ⟨σ', H', I, q⟩ := h; exact ⟨σ', H', I.bear, q⟩
  | ret u => obtain ⟨v, σ', H', I, r, q⟩ := h; exact ⟨v, σ', H', I.bear, r, q⟩
theorem SP.unbear {D : Ends} {f : Flow} {s' : Shared} (h : SP (X.bear pins E) pins' D f s') : SP X (pins ++ pins') D f s' := by
  cases f with
  | next => obtain ⟨σ', H', I, q⟩ := h; exact ⟨σ', H', I.unbear, q⟩
  | brk => obtain ⟨σ', H', I, q⟩ := h; exact ⟨σ', H', I.unbear, q⟩
  | cont => obtain ⟨σ', H', I, q⟩ := h; exact ⟨σ', H', I.unbear, q⟩
  | ret u => obtain ⟨v, σ', H', I, r, q⟩ := h; exact ⟨v, σ', H', I.unbear, r, q⟩
variable (nx : X.xe = noE)
include nx
theorem PE.bear {e : Expr} {t : TE} (h : PE X e t) : PE (X.bear pins E) e t := fun pins' s σ H Q I hw =>
  wpAny_mono (h _ s σ H Q I.unbear hw) (fun _ _ ⟨v, H', I', r, q⟩ => ⟨v, H', I'.bear, r, q⟩) fun _ _ z => by rw [nx] at z; exact z.elim
theorem PT.bear {e : Expr} {t : TT} (h : PT X e t) : PT (X.bear pins E) e t := fun pins' s σ H Q I hw =>
  wpAny_mono (h _ s σ H Q I.unbear hw) (fun _ _ ⟨H', I', q⟩ => ⟨H', I'.bear, q⟩) fun _ _ z => by rw [nx] at z; exact z.elim
theorem PA.bear {es : List Expr} {t : TA} (h : PA X es t) : PA (X.bear pins E) es t := fun pos pins' s σ H Q I hw =>
  wpAny_mono (h pos _ s σ H Q I.unbear hw) (fun _ _ ⟨v, H', I', r, q⟩ => ⟨v, H', I'.bear, r, q⟩) fun _ _ z => by rw [nx] at z; exact z.elim
theorem PS.bear {st : Stmt} {t : TS} (h : PS X st t) : PS (X.bear pins E) st t := fun pins' s σ H D I hw =>
  wpAny_mono (h _ s σ H D I.unbear hw) (fun _ _ q => q.bear) fun _ _ z => by rw [nx] at z; exact z.elim
theorem PSs.bear {st : List Stmt} {t : TS} (h : PSs X st t) : PSs (X.bear pins E) st t := fun pins' s σ H D I hw =>
  wpAny_mono (h _ s σ H D I.unbear hw) (fun _ _ q => q.bear) fun _ _ z => by rw [nx] at z; exact z.elim
end
end L2

set_option Elab.async false
set_option linter.all false
set_option maxRecDepth 100000
namespace L2
open PySem PySem.Spec PyProof.Rows

noncomputable abbrev MXe := Ro → Option Str
noncomputable abbrev MXs := Ro → Option (Str × Ro)
noncomputable abbrev WX := Str → St → Hp → Prop
noncomputable def TXe (K : PySem.W.Frag) (x : MXe) (W : WX) : St → Hp → Prop := fun σ H => ∃ F0 H0 F ρ c, Rl K F0 H0 F H σ ρ ∧ x ρ = some c ∧ ∀ F' H', Ext F H F' H' → W c σ H'
noncomputable def TXs (K : PySem.W.Frag) (x : MXs) (W : WX) : St → Hp → Prop := fun σ H => ∃ F0 H0 F ρ c ρ', Rl K F0 H0 F H σ ρ ∧ x ρ = some (c, ρ') ∧ ∀ F' H' σ', Rl K F0 H0 F' H' σ' ρ' → Same F F' → W c σ' H'
noncomputable abbrev Cx.rx (X : Cx) (pins : List (Addr × Obj)) (W : WX) : Cx := X.bear pins (RX X pins W)
noncomputable def PEX (X : Cx) (e : Expr) (x : MXe) : Prop := ∀ pins W, PE (X.rx pins W) e fun σ H _ => TXe X.K x W σ H
noncomputable def PAX (X : Cx) (es : List Expr) (x : MXe) : Prop := ∀ pins W, PA (X.rx pins W) es fun σ H _ => TXe X.K x W σ H
noncomputable def PSX (X : Cx) (st : Stmt) (x : MXs) : Prop := ∀ pins W, PS (X.rx pins W) st fun _ σ H => TXs X.K x W σ H
noncomputable def PSsX (X : Cx) (st : List Stmt) (x : MXs) : Prop := ∀ pins W, PSs (X.rx pins W) st fun _ σ H => TXs X.K x W σ H
noncomputable def xE (x : MXe) : MXs := fun ρ => (x ρ).map fun c => (c, ρ)
theorem xE_e {K : PySem.W.Frag} {x : MXe} {W : WX} {σ : St} {H : Hp} (h : TXs K (xE x) W σ H) : TXe K x W σ H := by
  obtain ⟨F0, H0, F, ρ, c, ρ', rl, e, w⟩ := h
  unfold xE at e
  cases h1 : x ρ with
  | none => rw [h1] at e; cases e
  | some c' =>
    rw [h1] at e; cases e
    exact ⟨F0, H0, F, ρ, c, rl, h1, fun F' H' x1 => w F' H' σ (rl.go x1) x1.ff⟩

section
variable {X : Cx} {st : Stmt} {rest : List Stmt} {e c : Expr} {pos : Pos}
noncomputable def xnone : MXs := fun _ => none
theorem pssx_none : PSsX X rest xnone := fun _ _ _ _ _ _ _ _ hpat => by obtain ⟨_, _, _, _, _, _, _, z, _⟩ := hpat; cases z
theorem PS.or {t u : TS} (h : PS X st t) (k : PS X st u) : PS X st fun D σ H => t D σ H ∨ u D σ H := fun pins s σ H D I q => q.elim (fun z => h pins s σ H D I z) fun z => k pins s σ H D I z
theorem PSs.or {t u : TS} (h : PSs X rest t) (k : PSs X rest u) : PSs X rest fun D σ H => t D σ H ∨ u D σ H := fun pins s σ H D I q => q.elim (fun z => h pins s σ H D I z) fun z => k pins s σ H D I z
theorem pssx_head {x : MXs} (h : PSX X st x) : PSsX X (st :: rest) x := fun pins W => (pss_cons (h pins W) (pssx_none pins W)).imp fun _ _ _ q => q
theorem pssx_one {x : MXs} (h : PSX X st x) : PSsX X [st] x := fun pins W => pss_one (h pins W)
noncomputable def xif (c : MB) (x y : MXs) : MXs := fun ρ => match c ρ with | some true => x ρ | some false => y ρ | none => none
theorem psx_if {ca : MB} {a b : List Stmt} {xa xb : MXs} (nx : X.xe = noE) (hc : PC' X c ca) (ha : PSsX X a xa) (hb : PSsX X b xb) : PSX X (.If c a b pos) (xif ca xa xb) := fun pins W =>
  (ps_if (PT.bear nx hc) (ha pins W) (hb pins W)).imp fun D σ H hpat => by
    obtain ⟨F0, H0, F, ρ, c, ρ', rl, e, w⟩ := hpat
    unfold xif at e
    split at e
    · rename_i h1
      exact ⟨F0, H0, F, ρ, _, rl, h1, fun F1 H1 x1 => iteT ⟨F0, H0, F1, ρ, c, ρ', rl.go x1, e, fun F' H' σ' rl' sf => w F' H' σ' rl' (x1.ff.trans sf)⟩⟩
    · rename_i h1
      exact ⟨F0, H0, F, ρ, _, rl, h1, fun F1 H1 x1 => iteF ⟨F0, H0, F1, ρ, c, ρ', rl.go x1, e, fun F' H' σ' rl' sf => w F' H' σ' rl' (x1.ff.trans sf)⟩⟩
    · cases e
theorem psx_expr {x : MXe} (h : PEX X e x) (hs : swapsWith e none pos.line X.env = pure false := by rfl) : PSX X (.Expr e pos) (xE x) := fun pins W => (ps_expr (h pins W) hs).imp fun _ _ _ q => xE_e q
theorem psx_ret {x : MXe} (h : PEX X e x) : PSX X (.Return (some e) pos) (xE x) := fun pins W => (ps_ret (h pins W)).imp fun _ _ _ q => xE_e q
theorem pax_head {x : MXe} {es : List Expr} (h : PEX X e x) (hs : starEach (e :: es) X.env = (false, eval e X.env) :: starEach es X.env := by rfl) : PAX X (e :: es) x := fun pins W => by
  have hn : PA (X.rx pins W) es (fun _ _ _ => False) := fun _ _ _ _ _ _ _ z => z.elim
  exact (pa_cons (h pins W) hn hs).imp fun _ _ _ q => q
theorem pex_len {x : MXe} {p : Pos} (hg : Gl X "len") (hm : X.mg "len" = none) (h : PEX X e x) (he : starEach [e] X.env = (false, eval e X.env) :: starEach [] X.env := by rfl) (hpl : (backTo pos (starEach [] X.env)).any (·.1) = false := by rfl) :
    PEX X (.Call (.Name "len" p) [e] [] pos) x := fun pins W => (pe_callB (X := X.rx pins W) call_len_seq hg hm PySem.boot_len (pax_head h he pins W) (by decide) (by decide) he hpl).imp fun _ _ _ q => q

noncomputable abbrev MFX := List D → Option Str
noncomputable def spX (K : PySem.W.Frag) (n : Nat) (x : MFX) : Sp := fun vs H _ E => vs.length = n ∧ ∃ F ds c, Same F H ∧ Reps K F vs ds ∧ x ds = some c ∧ ∀ C F' H', XC K c C → Ext F H F' H' → E (.ref C) none H'
@[irreducible] noncomputable def xcall (x : MFX) (m : ML) : MXe := fun ρ => (m ρ).bind x
theorem pex_call {k n : Nat} {f : Addr} {fd : FuncData} {ps : List Str} {xf : MFX} {m : ML} {x : Str} {p : Pos} {es : List Expr} (nx : X.xe = noE) (T : Top X) (F : FnOk X.prog X.w X.K X.mg X.base (CXx X.prog X.w) k f fd ps (spX X.K n xf)) (hr : Room k X.A) (hg : Gl X x) (hm : X.mg x = some (.ref f))
    (hk : PySem.W.keepIn X.K (.ref f) = true) (hb : Binds X.K fd ps []) (hl : (e :: es).length = n) (ha : PAs X (e :: es) m) (hm2 : ∀ ρ ds, m ρ = some ds → ds.length = (e :: es).length)
    (hdb : (x == ("__debug__" : Str)) = false := by decide) (he : starEach (e :: es) X.env = (false, eval e X.env) :: starEach es X.env := by rfl) (hpl : (backTo pos (starEach es X.env)).any (·.1) = false := by rfl) :
    PEX X (.Call (.Name x p) (e :: es) [] pos) (xcall xf m) := by
  intro pins W pins' s σ H Q I h
  obtain ⟨F0, H0, F1, ρ, c, rl, e1, w⟩ := h
  unfold xcall at e1
  cases h1 : m ρ with
  | none => rw [h1] at e1; cases e1
  | some ds =>
    rw [h1] at e1
    have e1 : xf ds = some c := e1
    have ha' : PA (X.rx pins W) (e :: es) (TAs X.K m) := PA.bear nx ha
    refine wpAny_Call_Name_kw (ld_glob I hg hm ?_ hdb)
    refine PySem.W.callWith_K (h₀ := X.base) I.ok.mod.kin hk (thn (ha' pos pins' s σ H (fun vs H1 => vs.length = n ∧ ∃ F2, Ext F1 H F2 H1 ∧ Reps X.K F2 vs ds) I ⟨F0, H0, F1, ρ, ds, rl, h1, fun vs F2 H2 x2 r2 => ⟨by rw [r2.length, hm2 ρ ds h1, hl], F2, x2, r2⟩⟩) fun us s1 ⟨vs, H1, I1, r, hn, F2, x2, r2⟩ => ⟨I1.kIn, ?_⟩) he hpl
    have sp0 : spX X.K n xf vs H1 (fun _ _ => False) (fun v _ H' => ∃ c C, v = .ref C ∧ XC X.K c C ∧ W c σ H') := ⟨hn, F2, ds, c, x2.fh, r2, e1, fun C F' H' xc x3 => ⟨c, C, rfl, xc, w F' H' (x2.trans x3)⟩⟩
    have hlu : us.length = ps.length := by rw [← r.length]; exact F.len _ _ _ _ sp0
    have hbd := hb s1 us I1.kIn (by rw [List.append_nil]; exact hlu)
    rw [List.append_nil] at hbd
    refine wpAny_call (codeAny_mono (F.run X.A X.stack s1 H1 ⟨us, []⟩ us vs _ _ hr I1.env0 hbd r sp0) fun r' s' hq => ?_)
    cases r' with
    | error ev => exact rx_call (E := fun v _ H' => ∃ c C, v = .ref C ∧ XC X.K c C ∧ W c σ H') T I1.unbear.fewer hq fun v o H' z => z
    | ok fl =>
      cases fl with
      | ret u => obtain ⟨_, _, _, _, _, _, _, z⟩ := hq; exact z.elim
      | next => exact False.elim hq
      | brk => exact False.elim hq
      | cont => exact False.elim hq

noncomputable def xraise (c : Str) (m : ML) : MXs := fun ρ => (m ρ).map fun _ => (c, ρ)
theorem psx_raise {C : Addr} {x : Str} {es : List Expr} {m : ML} {n : Nat} {np cpos : Pos} (nx : X.xe = noE) (T : Top X) (hc : X.calm = true) (hg : Gl X x) (hm : X.mg x = some (.ref C)) (xc : XC X.K x C) (q : PySem.W.excIn X.K C bmV "ValueError.__new__" = true)
    (ha : PAs X (e :: es) m) (hl : ∀ ρ ds, m ρ = some ds → ds.length = n) (hn : n ≤ sizeLine) (hdb : (x == ("__debug__" : Str)) = false := by decide)
    (he : starEach (e :: es) X.env = (false, eval e X.env) :: starEach es X.env := by rfl) (hpl : (backTo cpos (starEach es X.env)).any (·.1) = false := by rfl) :
    PSX X (.Raise (some (.Call (.Name x np) (e :: es) [] cpos)) none pos) (xraise x m) := by
  intro pins W pins' s σ H D I h
  obtain ⟨F0, H0, F1, ρ, c, ρ', rl, e1, w⟩ := h
  unfold xraise at e1
  cases h1 : m ρ with
  | none => rw [h1] at e1; cases e1
  | some ds =>
    rw [h1] at e1; cases e1
    obtain ⟨bm, N, nm, qn, bs, hdct, sn, sub, ab, col, dd, k0, k1, k2, k3, k5, mN, hC, hN, hni, TL⟩ := xobj I.mod.kin q
    have ha' : PA (X.rx pins W) (e :: es) (TAs X.K m) := PA.bear nx ha
    have h2 := ha' cpos pins' s σ H (fun vs H1 => vs.length = n ∧ W x σ H1) I ⟨F0, H0, F1, ρ, ds, rl, h1, fun vs F2 H2 x2 r2 => ⟨by rw [r2.length]; exact hl ρ ds h1, w F2 H2 σ (rl.go x2) x2.ff⟩⟩
    refine wpAny_Raise_call_subT (C := C) (N := N) (bm := bm) (nm := nm) (q := qn) (bs := bs) (sub := sub) (sn := sn) (hdct := hdct) (col := col) (ab := ab) (dd := dd) (k0 := k0) (k1 := k1) (k2 := k2) (k3 := k3) (k5 := k5) PySem.F.excBase_ValueError (TL.hasType PySem.F.excBase_ValueError.hasBase) (I.ok.hd hc) ?_ hni (ld_glob I hg hm ⟨rfl, ?_⟩ hdb)
    · rw [he]
      show (false || (backTo cpos (starEach es X.env)).any (·.1)) = false
      rw [hpl]; rfl
    · rw [he] at h2 ⊢
      refine Calls.evalArgs_plain (wpAny_mono h2 (fun us s2 ⟨vs, H1, I1, r1, hl1, q1⟩ => ⟨rfl, by rw [← r1.length, hl1]; exact hn, I1.bk _ _ hC, hN.keeps I1.bk, TL.keeps I1.bk, fun h3 a hm3 => ?_⟩) fun _ _ y => y)
      exact rx_made T I1.unbear.fewer hm3 xc q1

noncomputable def runX (n : Nat) (x : MXs) : MFX := fun ds => (x (startS n ds)).map (·.1)
theorem Fun.okX {P : Program} {w : World} {K : PySem.W.Frag} {mg : Str → Option Value} {base : Heap} {x qual : Str} {st : Stmt} {f : Addr} {fd : FuncData} {N ps : List Str} {k : Nat} {m : MXs} (Fn : Fun K x qual st f fd) (Sc : FnScope N ps (defScope st))
    (hbody : ∀ (cdv : Value) (A : Around) (outer : List Env) (s : Shared) (H : Hp) (E : XK), Room k (A.deeper (envOfC qual (defScope st) s.heap.objs.size f cdv)) → PSsX (cxOf (CXx P w) P w K mg base N qual (defScope st) f cdv A outer s H E).nox (defBody st) m) :
    FnOk P w K mg base (CXx P w) (k + 1) f fd ps (spX K ps.length (runX N.length m)) := by
  obtain ⟨oc, od, kV, doc, pm, an, cdv, ct, osl, rfl, lk, hcd⟩ := Fn.ex
  refine fn_of lk hcd Sc (fun vs H Q E h => h.1) fun A outer s H vs Q E hr h => ?_
  obtain ⟨hl, F, ds, c, sf, rs, e, w0⟩ := h
  unfold runX at e
  cases h1 : m (startS N.length ds) with
  | none => rw [h1] at e; cases e
  | some o =>
    obtain ⟨c', ρ'⟩ := o
    rw [h1] at e; cases e
    have hb := hbody cdv A outer s H E hr
    let W : WX := fun c _ H' => ∀ C, XC K c C → E (.ref C) none H'
    refine ⟨fun _ σ H => TXs K m W σ H, fun pins s1 σ H1 D I q => ?_, F, H, F, startS N.length ds, c', ρ', rl_start sf rs, h1, fun F' H' σ' rl _ C xc => w0 C F' H' xc rl.ext⟩
    have I1 : Inv (cxOf (CXx P w) P w K mg base N qual (defScope st) f cdv A outer s H E).nox (pins ++ []) σ H1 s1 := by rw [List.append_nil]; exact I.wish _
    refine wpAny_mono (hb pins W [] s1 σ H1 D I1.bear q) (fun fl s' z => ?_) fun ev s' z => ?_
    · have := z.unbear
      rw [List.append_nil] at this
      exact this.unwish
    · exact rx_leaves (X := (cxOf (CXx P w) P w K mg base N qual (defScope st) f cdv A outer s H E).nox) ⟨rfl, rfl, rfl⟩ z
end
end L2

set_option Elab.async false
set_option linter.all false
set_option maxRecDepth 100000
namespace L2
open PySem PySem.Spec PyProof.Rows

section
variable {X : Cx} {pins : List (Addr × Obj)} {E : Value → Shared → Prop} (nx : X.xe = noE)
include nx
theorem PG.bear {tg : Expr} {t : TG} (h : PG X tg t) : PG (X.bear pins E) tg t := fun pins' s σ H v u Q I r hw =>
  wpAny_mono (h _ s σ H v u Q I.unbear r hw) (fun _ _ ⟨σ', H', I', q⟩ => ⟨σ', H', I'.bear, q⟩) fun _ _ z => by rw [nx] at z; exact z.elim
theorem PI.bear {tg it : Expr} {t : TI} (h : PI X tg it t) : PI (X.bear pins E) tg it t := fun pins' s σ H R I hw =>
  wpAny_mono (h _ s σ H R I.unbear hw) (fun v s1 h1 => wpAny_mono h1 (fun itv s2 ⟨it, fp, tn, J, H', e, I', T, st, f, q⟩ => ⟨it, fp, tn, J, H', e, I'.bear, T, st, fun b hb => by
    obtain ⟨f0, f1, f2, f3, f4, f5⟩ := f b hb
    exact ⟨f0, f1, f2, f3, f4, fun p hp => f5 p (by rw [← List.append_assoc]; exact hp)⟩, q⟩) fun _ _ z => by rw [nx] at z; exact z.elim) fun _ _ z => by rw [nx] at z; exact z.elim
end

section
variable {X : Cx} {e c : Expr} {pos : Pos} {st : Stmt} {rest : List Stmt}
end
end L2

set_option Elab.async false
set_option linter.all false
set_option maxRecDepth 100000
namespace L2
open PySem PySem.Spec PyProof.Rows

noncomputable abbrev Cx.inX (X : Cx) (a : Addr) : Cx := { X with A := X.A.mark (some (.ref a)), calm := false }
section
variable {X : Cx} {pins : List (Addr × Obj)} {σ : St} {H : Hp} {s : Shared} {a C : Addr}
theorem Cx.Ok.inX (ok : X.Ok) : (X.inX a).Ok := ⟨ok.mod, ok.kind, ok.glob, ok.blt, ok.above, ok.inj, ok.has, ok.cab, (fun z => by cases z), ok.frames, ok.stk, ok.exf, ok.bs, ok.bsz, ok.noex, ok.exfs, ok.funs, ok.frf⟩
theorem Inv.inX (I : Inv X pins σ H s) : Inv (X.inX a) pins σ H s := ⟨I.ok.inX, I.os, I.bare, I.base, I.loc, I.cell, I.free, I.freeC, I.pin, I.hok, I.len⟩
theorem Inv.outX (ok : X.Ok) (I : Inv (X.inX a) pins σ H s) : Inv X pins σ H s := ⟨ok, I.os, I.bare, I.base, I.loc, I.cell, I.free, I.freeC, I.pin, I.hok, I.len⟩
theorem Inv.gone {i : Nat} {n : Str} {h' : Heap} {t' : Nat} {v : Option Value} {m : Str → Option Value} (I : Inv X pins σ H s) (hN : X.N.Nodup) (hi : X.N[i]? = some n) (hm : s.heap.Ns X.env.locals m) (hn : h'.Ns X.env.locals (fun x => if x = n then v else m x)) (hs : Heap.SameBut X.env.locals s.heap h') :
    Inv X pins (σ.set i none) H { s with heap := h', toks := t' } := by
  have old : ∀ b o, X.s₀.heap.get? b = some o → b ≠ X.env.locals := fun b o e => Nat.ne_of_lt (Nat.lt_of_lt_of_le (Heap.lt_size e) I.ok.above)
  refine ⟨I.ok, I.os, I.bare, ⟨fun b o e n hb hx => (hs.2 b (old b o e)).trans (I.base.keep b o e n hb hx), fun b o e n hb hx => ?_, I.base.free, fun b o e hx => ?_, I.base.tups, I.base.frzs, I.base.tbls⟩, ⟨_, hn, fun j y u e1 e2 e3 => ?_⟩, fun y c e => ?_, I.free, I.freeC, fun p hp => ?_, fun b ob e => ?_, by rw [List.length_set]; exact I.len⟩
  · obtain ⟨sl, e1⟩ := I.base.slot b o e n hb hx
    exact ⟨sl, (hs.2 b (old b o e)).trans e1⟩
  · obtain ⟨o1, e1⟩ := I.base.there b o e hx
    exact ⟨o1, (hs.2 b (old b o e)).trans e1⟩
  · have hj : j ≠ i := fun z => by
      subst z
      have hl : j < σ.length := by
        rcases Nat.lt_or_ge j σ.length with z | z
        · exact z
        · rw [List.getElem?_eq_none (by simpa using z)] at e2; cases e2
      rw [List.getElem?_set_self hl] at e2; cases e2
    rw [List.getElem?_set_ne (Ne.symm hj)] at e2
    obtain ⟨m0, hm0, hl0⟩ := I.loc
    have hmm : ∀ z, m0 z = m z := fun z => by
      obtain ⟨oo, es, ep, ho, hd, _, hf⟩ := hm0
      obtain ⟨oo', es', ep', ho', hd', _, hf'⟩ := hm
      rw [ho] at ho'; cases ho'
      rw [hd] at hd'; cases hd'
      rw [← hf, ← hf']
    obtain ⟨w, r, l⟩ := hl0 j y u e1 e2 e3
    refine ⟨w, r, ?_⟩
    have hy : y ≠ n := fun z => hj (nodup_ix hN e1 (z ▸ hi))
    rcases l with ⟨k, q⟩ | ⟨k, c, e, z⟩
    · exact .inl ⟨k, by show (if y = n then v else m y) = some w; rw [if_neg hy, ← hmm]; exact q⟩
    · exact .inr ⟨k, c, e, z.sameBut hs (I.cne y c e)⟩
  · obtain ⟨w, z⟩ := I.cell y c e
    exact ⟨w, z.sameBut hs (I.cne y c e)⟩
  · obtain ⟨e, n, ne, nf, d⟩ := I.pin p hp
    exact ⟨(hs.2 p.1 ne).trans e, n, ne, nf, d⟩
  · refine (I.hok b ob e).stay (fun c u hc q => (hs.2 c ?_).trans q) (fun _ q => q) fun _ _ q => q
    rintro rfl
    rcases hc with z | z
    · rw [← z, I.free] at e; cases e
    · rw [I.free] at z; cases z
theorem Inv.track {o : HO} (I : Inv X pins σ H s) (h0 : X.s₀.heap.get? a = none) (hL : a ≠ X.env.locals) (hc : ∀ x c, X.env.cells.lookup x = some c → c ≠ a) (hp : ∀ p ∈ X.pn ++ pins, p.1 ≠ a) (hn : H a = none) (new : ObjOk X.prog X.w (upd H a o) s.heap a o) :
    Inv X pins σ (upd H a o) s := by
  have nb : ∀ b o, X.s₀.heap.get? b = some o → b ≠ a := fun b o e z => by rw [z, h0] at e; cases e
  refine ⟨I.ok, I.os, I.bare, ⟨I.base.keep, I.base.slot, fun b o e n hx => ?_, I.base.there, fun b xs e => ?_, fun b o u e => ?_, fun b ps e => ?_⟩, I.loc, I.cell, ?_, fun x c e => ?_, fun p hp' => ?_, fun b u e => ?_, I.len⟩
  · rw [upd_ne (nb b o e)]; exact I.base.free b o e n hx
  · have := I.base.tups b xs e
    rw [upd_ne (ne_of_none this hn)]; exact this
  · have := I.base.frzs b o u e
    rw [upd_ne (ne_of_none this hn)]; exact this
  · obtain ⟨more, this⟩ := I.base.tbls b ps e
    exact ⟨more, by rw [upd_ne (ne_of_none this hn)]; exact this⟩
  · rw [upd_ne (Ne.symm hL)]; exact I.free
  · rw [upd_ne (hc x c e)]; exact I.freeC x c e
  · obtain ⟨e, n, r⟩ := I.pin p hp'
    exact ⟨e, by rw [upd_ne (hp p hp')]; exact n, r⟩
  · by_cases hb : b = a
    · subst hb; rw [upd_same] at e; cases e; exact new
    · rw [upd_ne hb] at e
      exact (I.hok b u e).stay (fun c v _ q => q) (fun c q => by rw [upd_ne (ne_of_none q hn)]; exact q) fun c xs q => by rw [upd_ne (ne_of_none q hn)]; exact q
end
theorem Rl.drop {K : PySem.W.Frag} {F0 H0 F H : Hp} {σ : St} {ρ : Ro} (r : Rl K F0 H0 F H σ ρ) (i : Nat) : Rl K F0 H0 F H (σ.set i none) (ρ.set i none) := by
  have get : ∀ (j : Nat) x, (ρ.set i none)[j]? = some (some x) → i ≠ j ∧ ρ[j]? = some (some x) := fun j x e => by
    by_cases hj : i = j
    · subst hj
      have hl : i < ρ.length := by
        rcases Nat.lt_or_ge i ρ.length with z | z
        · exact z
        · rw [List.getElem?_eq_none (by simpa using z)] at e; cases e
      rw [List.getElem?_set_self hl] at e; cases e
    · rw [List.getElem?_set_ne hj] at e; exact ⟨hj, e⟩
  have gs : ∀ (j : Nat) x, (σ.set i none)[j]? = some (some x) → σ[j]? = some (some x) := fun j x e => by
    by_cases hj : i = j
    · subst hj
      have hl : i < σ.length := by
        rcases Nat.lt_or_ge i σ.length with z | z
        · exact z
        · rw [List.getElem?_eq_none (by simpa using z)] at e; cases e
      rw [List.getElem?_set_self hl] at e; cases e
    · rw [List.getElem?_set_ne hj] at e; exact e
  refine ⟨r.ext, by simp [r.len], fun j d e => ?_, fun j ds e => ?_, fun j k p ds es hjk e1 e2 e3 e4 => r.inj j k p ds es hjk (get j _ e1).2 (get k _ e2).2 (gs j _ e3) (gs k _ e4), fun j p ds e => ?_, fun j k p ds es e1 e2 e3 => r.obn j k p ds es (get j _ e1).2 (get k _ e2).2 (gs k _ e3), fun j k p q ds es e1 e2 => r.ob1 j k p q ds es (get j _ e1).2 (get k _ e2).2⟩
  · obtain ⟨n, e⟩ := get j _ e
    rw [List.getElem?_set_ne n]; exact r.sh j d e
  · obtain ⟨n, e⟩ := get j _ e
    rw [List.getElem?_set_ne n]; exact r.own j ds e
  · obtain ⟨n, e⟩ := get j _ e
    rw [List.getElem?_set_ne n]; exact r.ob j p ds e

@[irreducible] noncomputable def mtry (names : List Str) (mb : MS) (xb : MXs) (i : Nat) (ms : MS) : MS := fun ρ => match mb ρ with
  | some o => some o
  | none => match xb ρ with
    | some (c, ρ1) => if c ∈ names then (match ms (ρ1.set i (some (.sh (.exc c)))) with | some (.nx ρ2) => some (.nx (ρ2.set i none)) | _ => none) else none
    | none => none
section
variable {X : Cx} {pos np hpos : Pos}
theorem psd_try {body suite : List Stmt} {b0 : Stmt} {mb ms : MS} {xb : MXs} {names : List Str} {x n : Str} {Wa : Addr} {i : Nat} (nx : X.xe = noE) (T : Top X) (hg : Gl X x) (hm : X.mg x = some (.ref Wa))
    (hcl : ∀ c ∈ names, ∀ C, XC X.K c C → PySem.W.exmOne X.K (.ref C) (.ref Wa) = some true) (hN : X.N.Nodup) (hi : X.N[i]? = some n) (hl : X.env.scope.names.lookup n = some .local)
    (hb : PSsd X body mb) (hx : PSsX X body xb) (hs : ∀ a, PSsd (X.inX a) (b0 :: suite) ms) (hdb : (x == ("__debug__" : Str)) = false := by decide) :
    PSd X (.Try body [.ExceptHandler (some (.Name x np)) (some n) (b0 :: suite) hpos] [] [] pos) (mtry names mb xb i ms) := by
  intro pins s σ H D I ⟨F0, H0, F, ρ, o, rl, e, ok⟩
  unfold mtry at e
  refine wpAny_Try_except ?_
  cases h1 : mb ρ with
  | some o1 =>
    rw [h1] at e; cases e
    refine wpAny_mono (hb pins s σ H D I ⟨F0, H0, F, ρ, o, rl, h1, ok⟩) (fun f s1 h => ?_) fun _ _ z => by rw [nx] at z; exact z.elim
    cases f with
    | next =>
      obtain ⟨σ1, H1, I1, q⟩ := h
      exact pss_nil pins s1 σ1 H1 D I1 q
    | brk => exact h
    | cont => exact h
    | ret u => exact h
  | none =>
    rw [h1] at e
    cases h2 : xb ρ with
    | none => rw [h2] at e; cases e
    | some cr =>
      obtain ⟨c, ρ1⟩ := cr
      rw [h2] at e
      dsimp only at e
      split at e
      · rename_i hc
        cases h3 : ms (ρ1.set i (some (.sh (.exc c)))) with
        | none => rw [h3] at e; cases e
        | some o3 =>
          rw [h3] at e
          cases o3 with
          | nx ρ2 =>
            cases e
            let W : WX := fun c' σ' H' => c' = c ∧ ∃ F', Rl X.K F0 H0 F' H' σ' ρ1 ∧ Same F F'
            have I0 : Inv X (pins ++ []) σ H s := by rw [List.append_nil]; exact I
            refine wpAny_mono (hx pins W [] s σ H { nx := fun _ _ => False, rt := fun _ _ => False } I0.bear ⟨F0, H0, F, ρ, c, ρ1, rl, h2, fun F' H' σ' rl' sf => ⟨rfl, F', rl', sf⟩⟩) (fun f s1 h => ?_) fun ev s1 h => ?_
            · cases f with
              | next => obtain ⟨_, _, _, z⟩ := h; exact z.elim
              | brk => obtain ⟨_, _, _, z⟩ := h; exact z.elim
              | cont => obtain ⟨_, _, _, z⟩ := h; exact z.elim
              | ret u => obtain ⟨_, _, _, _, _, z⟩ := h; exact z.elim
            refine wpAny_mono h (fun _ s2 h2 => wpAny_mono h2 (fun _ s3 h3 => ?_) fun _ _ z => z.elim) fun _ _ z => z.elim
            obtain ⟨a, C, a0, σ1, H1, sa, H', B, c', rfl, Ia, os, bare, f, fl, xc, rfl, F1, rl1, sf1⟩ := h3
            have I3 : Inv X pins σ1 H' s3 := f.inv Ia os bare
            have LT : ∀ M : Model, PySem.W.Looks M s3.heap (typeOf (.ref a)) (.ref C) := fun M => by
              obtain ⟨ob, e1, e2⟩ := fl.there
              exact e2 ▸ (PySem.W.Looks.ld e1).andThen .now
            refine wpAny_handleBy_cons (codeAny_handlers_test (ld_glob (X := X.inX a) I3.inX hg hm ((PySem.W.exm_one I3.kIn (LT _) (hcl _ hc C xc)).here ?_) hdb)) (by intro z; cases z)
            refine codeAny_handlers_suite_as ?_
            refine lands_againW fl fun h4 fl4 up4 => ?_
            have f4 := f.on fl.2.2.1 fl4.1 up4
            have I4 : Inv X pins σ1 H' { s3 with heap := h4 } := f4.inv Ia os bare
            -- the exception is young
            obtain ⟨oe, vs, he, hec, hed, _⟩ := fl4.first
            have nfr : a ∉ frs X.stack := fun z => by
              obtain ⟨_, o', e', hd'⟩ := fl4.2.2.1.mem z
              rw [he] at e'; cases e'
              exact hd' vs hed
            have young : sa.heap.get? a = none := by
              cases z : sa.heap.get? a with
              | none => rfl
              | some o' =>
                obtain ⟨ob, eb⟩ := f4.old a o' z nfr
                have := fl4.2.1
                rw [eb] at this; cases this
            have Ha : H' a = none := by
              cases z : H' a with
              | none => rfl
              | some o' =>
                obtain ⟨ob, eb⟩ := f4.trk a o' z
                have := fl4.2.1
                rw [eb] at this; cases this
            have y0 : X.s₀.heap.get? a = none := by
              cases z : X.s₀.heap.get? a with
              | none => rfl
              | some o' =>
                obtain ⟨o2, e2⟩ := Ia.base.there a o' z (by rw [T.ex]; simp)
                rw [young] at e2; cases e2
            have yL : a ≠ X.env.locals := fun z => by
              obtain ⟨m, ⟨o', _, _, ho', _⟩, _⟩ := Ia.loc
              rw [← z, young] at ho'; cases ho'
            have yC : ∀ y c, X.env.cells.lookup y = some c → c ≠ a := fun y c e z => by
              obtain ⟨v, o', ho', _⟩ := Ia.cell y c e
              rw [z, young] at ho'; cases ho'
            have yP : ∀ p ∈ X.pn ++ pins, p.1 ≠ a := fun p hp z => by
              have := (Ia.pin p hp).1
              rw [z, young] at this; cases this
            have xat : XAt a C h4 := ⟨oe, vs, he, hec, hed⟩
            have I5 : Inv X pins σ1 (upd H' a (.ext (XAt a C))) { s3 with heap := h4 } := I4.track y0 yL yC yP Ha ⟨xat, ⟨oe, he⟩, fun g1 g2 z k => by
              obtain ⟨o', vs', z1, z2, z3⟩ := z
              exact ⟨o', vs', k o' z1, z2, z3⟩⟩
            have x5 : Ext F1 H' (upd F1 a (.ext (XAt a C))) (upd H' a (.ext (XAt a C))) := Ext.laid rl1.fh Ha
            have rl5 := (rl1.go x5).set (i := i) (v := .ref a) (d := .exc c') (.exc xc upd_same)
            refine store_ok (X := X.inX a) I5.inX hN hi (.inl hl) (v := .ref a) rfl (fun s5 I6 => ?_) (.inr hl)
            let D2 : Ends := { nx := fun σ2 H2 => ∃ F2, Rl X.K F0 H0 F2 H2 σ2 ρ2 ∧ Same F F2, rt := fun _ _ => False }
            refine wpAny_mono (hs a pins s5 _ _ D2 I6 ⟨F0, H0, _, _, _, rl5, h3, fun F2 H2 σ2 rl2 sf2 => ⟨F2, rl2, (sf1.trans x5.ff).trans sf2⟩⟩) (fun fl6 s6 h6 => ?_) fun _ _ z => by rw [show (X.inX a).xe = X.xe from rfl, nx] at z; exact z.elim
            cases fl6 with
            | next =>
              obtain ⟨σ6, H6, I7, F6, rl6, sf6⟩ := h6
              have I8 : Inv X pins σ6 H6 s6 := I7.outX I.ok
              obtain ⟨m, hn, hl0⟩ := id I8.loc
              refine wpAny_nameGoes_keeps hl hn (by rw [I.ok.kind]; rfl) fun h7 v hn7 hs7 => ?_
              exact ⟨_, H6, I8.gone hN hi hn hn7 hs7, ok F6 H6 _ (rl6.drop i) sf6⟩
            | brk => obtain ⟨_, _, _, z⟩ := h6; exact z.elim
            | cont => obtain ⟨_, _, _, z⟩ := h6; exact z.elim
            | ret u => obtain ⟨_, _, _, _, _, z⟩ := h6; exact z.elim
          | _ => cases e
      · cases e
end
end L2

set_option Elab.async false
set_option linter.all false
set_option maxRecDepth 100000
namespace L2
open PySem PySem.Spec PyProof.Rows

structure RoomN (k : Nat) (A : Around) : Prop where
  dp : A.depth + 3 * k + 5 < recursionLimit
  un : A.units + 16 * k + 200 < cLine
theorem Room.n {k : Nat} {A : Around} (r : Room k A) : RoomN k A := ⟨r.dp, r.un⟩
theorem RoomN.mono {j k : Nat} {A : Around} (r : RoomN k A) (h : j ≤ k) : RoomN j A := ⟨by have := r.dp; omega, by have := r.un; omega⟩
theorem RoomN.deeper {k : Nat} {A : Around} (r : RoomN (k + 1) A) (env : Env) : RoomN k (A.deeper env) :=
  ⟨by have := r.dp; show A.depth + 1 + 3 * k + 5 < _; omega, by have := r.un; show A.units + 3 + 16 * k + 200 < _; omega⟩
theorem RoomN.units {k : Nat} {A : Around} (r : RoomN k A) : A.units + 64 < cLine := by have := r.un; omega
theorem Room.mark {k : Nat} {A : Around} (r : Room k A) (v : Option Value) : RoomN k (A.mark v) := ⟨r.dp, r.un⟩
structure FnOkN (P : Program) (w : World) (K : PySem.W.Frag) (mg : Str → Option Value) (base : Heap) (CX : CXT) (k : Nat) (f : Addr) (fd : FuncData) (ps : List Str) (sp : Sp) : Prop where
  len : ∀ vs H Q E, sp vs H Q E → vs.length = ps.length
  run : ∀ (A : Around) (outer : List Env) (s : Shared) (H : Hp) (args : Args) (us : List Value) (vs : List V) (Q : VK) (E : XK), RoomN k A → Env0 P w K mg base A outer s H → BindsTo s fd args (ps.zip us) → Vals vs us → sp vs H Q E →
    codeAny (model P w) A (.call (.ref f) args) (CR CX outer P w H s Q E) s
theorem FnOkN.mono {P : Program} {w : World} {K : PySem.W.Frag} {mg : Str → Option Value} {base : Heap} {CX : CXT} {j k : Nat} {f : Addr} {fd : FuncData} {ps : List Str} {sp : Sp} (F : FnOkN P w K mg base CX j f fd ps sp) (h : j ≤ k) : FnOkN P w K mg base CX k f fd ps sp :=
  ⟨F.len, fun A outer s H args us vs Q E hr => F.run A outer s H args us vs Q E (hr.mono h)⟩
noncomputable abbrev cxOfN (CX : CXT) (P : Program) (w : World) (K : PySem.W.Frag) (mg : Str → Option Value) (base : Heap) (N : List Str) (qual : Str) (scope : Scope) (f : Addr) (cd : Value) (A : Around) (outer : List Env) (s : Shared) (H : Hp) (E : XK) : Cx :=
  { cxOf CX P w K mg base N qual scope f cd A outer s H E with calm := false }
theorem inv_startN {CX : CXT} {P : Program} {w : World} {K : PySem.W.Frag} {mg : Str → Option Value} {base : Heap} {N ps : List Str} {qual : Str} {scope : Scope} {f : Addr} {cd : Value} {A : Around} {outer : List Env} {s s1 : Shared} {H : Hp} {E : XK} {us : List Value} {vs : List V}
    (S : FnScope N ps scope) (e0 : Env0 P w K mg base A outer s H) (hl : vs.length = ps.length) (r : Vals vs us)
    (x : InCallC s s.heap.objs.size (bindL (envOfC qual scope s.heap.objs.size f cd).kindOf (ps.zip us) fun _ => none) (cellsFrom (s.heap.objs.size + 1) scope.names []) (bindC (envOfC qual scope s.heap.objs.size f cd).kindOf (ps.zip us) fun _ => none) s1) :
    Inv (cxOfN CX P w K mg base N qual scope f cd A outer s H E) [] (start N vs) H s1 := by
  have e1 : Env0 P w K mg base { A with handled := none } outer s H := ⟨e0.frames, e0.mod, e0.bs, e0.bsz, e0.funs, e0.frf, e0.hok, e0.bare⟩
  have I := inv_start (CX := CX) (E := E) (A := { A with handled := none }) (qual := qual) (f := f) (cd := cd) S rfl e1 hl r x
  exact ⟨⟨I.ok.mod, I.ok.kind, I.ok.glob, I.ok.blt, I.ok.above, I.ok.inj, I.ok.has, I.ok.cab, (fun z => by cases z), Around.frames_deeper e0.frames, I.ok.stk, I.ok.exf, I.ok.bs, I.ok.bsz, I.ok.noex, I.ok.exfs, I.ok.funs, I.ok.frf⟩, I.os, I.bare, I.base, I.loc, I.cell, I.free, I.freeC, I.pin, I.hok, I.len⟩
theorem fn_ofN {CX : CXT} {P : Program} {w : World} {K : PySem.W.Frag} {mg : Str → Option Value} {base : Heap} {k : Nat} {f : Addr} {name qual : Str} {params : Arguments} {body : List Stmt} {scope : Scope} {dV kV doc pm cdv ct oc : Value} {an od : Option Addr}
    {osl : Array (Option Value)} {N ps : List Str} {sp : Sp} (lk : K.lookup f = some ⟨oc, od, .func (PySem.W.fnOf name qual params body scope dV kV doc pm an cdv ct), osl⟩) (hcd : PySem.W.codeIn K cdv qual = true) (S : FnScope N ps scope)
    (len : ∀ vs H Q E, sp vs H Q E → vs.length = ps.length)
    (hbody : ∀ (A : Around) (outer : List Env) (s : Shared) (H : Hp) (vs : List V) (Q : VK) (E : XK), RoomN k (A.deeper (envOfC qual scope s.heap.objs.size f cdv)) → sp vs H Q E →
      ∃ t, PSs (cxOfN CX P w K mg base N qual scope f cdv A outer s H E) body t ∧ t { nx := fun _ H' => Q .non H', rt := Q } (start N vs) H) :
    FnOkN P w K mg base CX (k + 1) f (PySem.W.fnOf name qual params body scope dV kV doc pm an cdv ct) ps sp := by
  refine ⟨len, fun A outer s H args us vs Q E hr e0 hb r hsp => ?_⟩
  have hl := len _ _ _ _ hsp
  have KX : K.In s.heap := e0.mod.kin.keeps fun b o e => (e0.bs b o e).1
  have lim : s.heap.NoLimit := e0.mod.nolimit.keeps fun b o e => (e0.bs b o e).1
  have hkind : ∀ y ∈ ps.zip us, scope.names.lookup y.1 = some .local ∨ (scope.names.lookup y.1 = some .cell ∧ ((cellsFrom (s.heap.objs.size + 1) scope.names []).lookup y.1).isSome = true) := fun ⟨n, v⟩ hy => by
    rcases S.par n (List.of_mem_zip hy).1 with q | q
    · exact .inl q
    · exact .inr ⟨q, PySem.W.cellsFrom_some _ _ _ (.inl q)⟩
  refine codeAny_call_function (by have := hr.dp; omega) (KX _ _ lk) rfl S.co S.gen rfl (PySem.W.codeRec_of KX hcd) (hb _ _ _ _ ?_)
  refine wpAny_newFunctionEnv_cells S.kind hkind fun env he s1 x => ?_
  subst he
  refine ⟨lim.keeps x.toInCall.keep, codeAny_func ?_⟩
  obtain ⟨t, ht, hq⟩ := hbody A outer s H vs Q E (hr.deeper _) hsp
  have I : Inv (cxOfN CX P w K mg base N qual scope f cdv A outer s H E) [] (start N vs) H s1 := inv_startN S e0 hl r x
  refine wpAny_mono (ht [] s1 (start N vs) H _ I hq) (fun fl s' hs => ?_) fun e s' hs => hs
  have fin : ∀ {σ' : St} {H' : Hp} {v : V} {u : Value}, Inv (cxOfN CX P w K mg base N qual scope f cdv A outer s H E) [] σ' H' s' → RelV v u → Q v H' → CE outer P w H s Q u s' :=
    fun {σ' H' v u} J rv q => ⟨v, H', J.os, J.bare, J.base, J.hok, rv, q⟩
  cases fl with
  | ret u =>
    obtain ⟨v, σ', H', J, rv, q⟩ := hs
    exact fin J rv q
  | next =>
    obtain ⟨σ', H', J, q⟩ := hs
    exact fin (v := V.non) (u := Value.none) J rfl q
  | brk =>
    obtain ⟨_, _, _, q⟩ := hs
    exact False.elim q
  | cont =>
    obtain ⟨_, _, _, q⟩ := hs
    exact False.elim q
theorem Fun.okN {P : Program} {w : World} {K : PySem.W.Frag} {mg : Str → Option Value} {base : Heap} {x qual : Str} {st : Stmt} {f : Addr} {fd : FuncData} {N ps : List Str} {k : Nat} {m : MS} (Fn : Fun K x qual st f fd) (Sc : FnScope N ps (defScope st))
    (hbody : ∀ (cdv : Value) (A : Around) (outer : List Env) (s : Shared) (H : Hp) (E : XK), RoomN k (A.deeper (envOfC qual (defScope st) s.heap.objs.size f cdv)) → PSsd (cxOfN CX0 P w K mg base N qual (defScope st) f cdv A outer s H E).nox (defBody st) m) :
    FnOkN P w K mg base CX0 (k + 1) f fd ps (spR K ps.length (runB N.length m)) := by
  obtain ⟨oc, od, kV, doc, pm, an, cdv, ct, osl, rfl, lk, hcd⟩ := Fn.ex
  refine fn_ofN lk hcd Sc (fun vs H Q E h => h.1) fun A outer s H vs Q E hr h => ?_
  obtain ⟨hl, F, ds, r, sf, rs, e, ok⟩ := h
  unfold runB at e
  cases h1 : m (startS N.length ds) with
  | none => rw [h1] at e; cases e
  | some o =>
    rw [h1] at e
    refine ⟨_, (hbody cdv A outer s H E hr).nox, F, H, F, startS N.length ds, o, rl_start sf rs, h1, ?_⟩
    cases o with
    | nx ρ => cases e; exact fun F' H' σ' rl _ => ok .non F' H' rl.ext .non
    | rt d => cases e; exact ok
    | rf es => cases e; exact ok
    | rp d es => cases e; exact ok
    | rg d p r => cases e
    | rgf d p r => cases e
    | bk ρ => cases e
    | ct ρ => cases e
section
variable {X : Cx} {CX : CXT} {k : Nat} {f : Addr} {fd : FuncData} {ps : List Str} {sp : Sp} {dvs : List V} {ds : List Value} {E : XK} {x : Str} {p pos : Pos} {e : Expr} {es : List Expr} {t : TA}
theorem pe_callN (F : FnOkN X.prog X.w X.K X.mg X.base CX k f fd ps sp) (hr : RoomN k X.A) (hg : Gl X x) (hm : X.mg x = some (.ref f)) (hk : PySem.W.keepIn X.K (.ref f) = true) (hb : Binds X.K fd ps ds) (hd : Vals dvs ds) (hx : Passes CX X E)
    (ha : PA X (e :: es) t) (hdb : (x == ("__debug__" : Str)) = false := by decide) (he : starEach (e :: es) X.env = (false, eval e X.env) :: starEach es X.env := by rfl) (hpl : (backTo pos (starEach es X.env)).any (·.1) = false := by rfl) :
    PE X (.Call (.Name x p) (e :: es) [] pos) (tCall sp dvs E t) := by
  intro pins s σ H Q I h
  refine wpAny_Call_Name_kw (ld_glob I hg hm ?_ hdb)
  refine PySem.W.callWith_K (h₀ := X.base) I.ok.mod.kin hk (thn (ha pos pins s σ H _ I h) fun us s1 ⟨vs, H1, I1, r, q⟩ => ⟨I1.kIn, ?_⟩) he hpl
  have r2 : Vals (vs ++ dvs) (us ++ ds) := r.append hd
  have hl : (us ++ ds).length = ps.length := by rw [← r2.length]; exact F.len _ _ _ _ q
  refine wpAny_call (codeAny_mono (F.run X.A X.stack s1 H1 ⟨us, []⟩ (us ++ ds) (vs ++ dvs) Q E hr I1.env0 (hb s1 us I1.kIn hl) r2 q) fun r s' hq => ?_)
  cases r with
  | error e => exact hx pins σ H1 s1 e s' I1 hq
  | ok fl =>
    cases fl with
    | ret u => exact I1.after hq
    | next => exact False.elim hq
    | brk => exact False.elim hq
    | cont => exact False.elim hq
end

@[irreducible] noncomputable def misX (tab : List (Str × Bool)) (m : ME) : ME := fun ρ => match m ρ with | some (.exc c) => (tab.lookup c).map .bl | _ => none
section
variable {X : Cx} {a : Expr} {ma : ME} {pos : Pos}
noncomputable def rIsX (K : PySem.W.Frag) (cv : Value) (tab : List (Str × Bool)) (y : V) : List V → Hp → VK → Prop := fun vs H Q => ∃ b c k, vs = [.ref b, y] ∧ (∃ C, XC K c C ∧ H b = some (.ext (XAt b C))) ∧ tab.lookup c = some k ∧ Q (.bl k) H
theorem call_isX {cv : Value} {y : V} {tab : List (Str × Bool)} (ry : ∀ u, RelV y u → u = cv) (hk : ∀ c k, tab.lookup c = some k → ∀ C, XC X.K c C → XCls X.K C ∧ PySem.W.kitOne X.K (.ref C) cv = some k) : CallR X (.builtin "isinstance") (rIsX X.K cv tab y) := by
  intro pins s σ H xs us Q I r h
  obtain ⟨b, c, k, rfl, ⟨C, xc, hb⟩, e, q⟩ := h
  obtain ⟨u, w, rfl, rx, r2⟩ := vals2 r
  cases rx
  cases ry w r2
  obtain ⟨z, kk⟩ := hk c k e C xc
  exact PySem.W.kia_one (kitx_exc z) I.kIn (I.xat hb) kk (fun z => nomatch z) fun tk => ⟨.bl k, H, I.tok _, rfl, q⟩
theorem isX_imp {cv : Value} {y : V} {tab : List (Str × Bool)} {ty : TE} (hy : ∀ σ H Q, Q y H → ty σ H Q) {σ : St} {H : Hp} {Q : VK} (h : TD X.K (misX tab ma) σ H Q) : tCB (rIsX X.K cv tab y) (tCons (TD X.K ma) (tCons ty tNil)) σ H Q := by
  obtain ⟨F0, H0, F, ρ, g, rl, e, q⟩ := h
  unfold misX at e
  split at e
  · rename_i c h1
    cases h2 : tab.lookup c with
    | none => rw [h2] at e; cases e
    | some k =>
      rw [h2] at e; cases e
      refine ⟨F0, H0, F, ρ, _, rl, h1, fun v F1 H1 x1 r1 => ?_⟩
      cases r1 with
      | exc xc hb => exact hy _ _ _ ⟨_, c, k, rfl, ⟨_, xc, x1.fh _ _ hb⟩, h2, q _ F1 H1 x1 (.bl _)⟩
  · cases e
theorem pd_isX {c : Str} {Ca : Addr} {p p2 : Pos} {tab : List (Str × Bool)} (hg : Gl X "isinstance") (hm : X.mg "isinstance" = none) (hgc : Gl X c) (hmc : X.mg c = some (.ref Ca)) (ha : PD X a ma)
    (hk : ∀ c k, tab.lookup c = some k → ∀ C, XC X.K c C → XCls X.K C ∧ PySem.W.kitOne X.K (.ref C) (.ref Ca) = some k) (hd : (c == ("__debug__" : Str)) = false := by decide)
    (hs : starEach (a :: [.Name c p2]) X.env = (false, eval a X.env) :: starEach [.Name c p2] X.env := by rfl) (hs2 : starEach [.Name c p2] X.env = (false, eval (.Name c p2) X.env) :: starEach [] X.env := by rfl)
    (hpl : (backTo pos (starEach [.Name c p2] X.env)).any (·.1) = false := by rfl) : PD X (.Call (.Name "isinstance" p) [a, .Name c p2] [] pos) (misX tab ma) :=
  (pe_callB (call_isX (y := .ref Ca) (cv := .ref Ca) (fun u z => z) hk) hg hm PyProof.Rows.boot_isinstance (pa_cons ha (pa_cons (pe_glob (v := .ref Ca) hgc hmc rfl hd) pa_nil hs2) hs) (by decide) (by decide) hs hpl).imp fun σ H Q h => isX_imp (fun _ _ _ z => z) h
theorem pd_isXB {c : Str} {T : String} {p p2 : Pos} {tab : List (Str × Bool)} (hg : Gl X "isinstance") (hm : X.mg "isinstance" = none) (hgc : Gl X c) (hmc : X.mg c = none) (hv : bootBuiltins c = some (.type T)) (ha : PD X a ma)
    (hk : ∀ c k, tab.lookup c = some k → ∀ C, XC X.K c C → XCls X.K C ∧ PySem.W.kitOne X.K (.ref C) (.type T) = some k) (hn : c ≠ "__name__" := by decide) (hd : (c == ("__debug__" : Str)) = false := by decide)
    (hs : starEach (a :: [.Name c p2]) X.env = (false, eval a X.env) :: starEach [.Name c p2] X.env := by rfl) (hs2 : starEach [.Name c p2] X.env = (false, eval (.Name c p2) X.env) :: starEach [] X.env := by rfl)
    (hpl : (backTo pos (starEach [.Name c p2] X.env)).any (·.1) = false := by rfl) : PD X (.Call (.Name "isinstance" p) [a, .Name c p2] [] pos) (misX tab ma) :=
  (pe_callB (call_isX (y := .ty T) (cv := .type T) (fun u z => z) hk) hg hm PyProof.Rows.boot_isinstance (pa_cons ha (pa_cons (pe_bltn (v := .ty T) hgc hmc hv rfl hn hd) pa_nil hs2) hs) (by decide) (by decide) hs hpl).imp fun σ H Q h => isX_imp (fun _ _ _ z => z) h
end

noncomputable def xclsB (K : PySem.W.Frag) (C : Addr) : Bool :=
  (PySem.W.findIn K (.ref C) "__getattribute__" == some (some (.builtin "BaseException.__getattribute__"))) && (PySem.W.findIn K (.ref C) "__getattr__" == some none) && (PySem.W.findIn K (.ref C) "__class__" == some (some (.builtin "object.__class__"))) &&
    (PySem.W.mroIn K C (.type "object") == some true) && (PySem.W.mroIn K C (.type "BaseException") == some true)
theorem xcls_of {K : PySem.W.Frag} {C : Addr} (h : xclsB K C = true) : XCls K C := by
  unfold xclsB at h
  simp only [Bool.and_eq_true, beq_iff_eq] at h
  exact ⟨h.1.1.1.1, h.1.1.1.2, h.1.1.2, h.1.2, h.2⟩
theorem XC.eq {K : PySem.W.Frag} {c : Str} {C x : Addr} (h : XC K c C) (e : PySem.W.nsIn K mainGlobals c = some (some (.ref x))) : C = x := by
  have := h.1.symm.trans e
  cases this; rfl
theorem lookup_all {P : Str → Bool → Prop} : ∀ {tab : List (Str × Bool)}, (∀ p ∈ tab, P p.1 p.2) → ∀ c k, tab.lookup c = some k → P c k := fun h c k e => h (c, k) (PySem.mem_of_lookup e)
end L2

set_option Elab.async false
set_option linter.all false
set_option maxRecDepth 100000
set_option maxHeartbeats 4000000
namespace Lw
open PySem L2
noncomputable section
noncomputable abbrev tab_OTHER_KIND : List (Str × Str) := [("up", "down"), ("down", "up")]
noncomputable def b_refuse_step : MS := (mif (mtest (m2 ltD (mvar 0) (mc (.int 1)))) mnever mnext)
noncomputable def m_refuse_step : MF := runB 1 b_refuse_step
noncomputable def bx_refuse_step : MXs := (xif (mtest (m2 ltD (mvar 0) (mc (.int 1)))) (xraise "NoStep" (acons (mc (.str "a least step is 1 or more")) anil)) xnone)
noncomputable def xm_refuse_step : MFX := runX 1 bx_refuse_step
noncomputable def b_are_places_f0 : MS := (mseq (mif (cor (mtest (m2 ltD (mvar 3) (mvar 2))) (mtest (m2 geD (mvar 3) (mlen (bvar 0))))) (mret (mc (.bl false))) mnext) (mset 2 (m2 addD (mvar 3) (mc (.int 1)))))
noncomputable def b_are_places : MS := (mseq (mset 2 (mc (.int 0))) (mseq (mfor (aslst (mvar 1)) (.nm 3) b_are_places_f0) (mret (mc (.bl true)))))
noncomputable def m_are_places : MF := runB 4 b_are_places
noncomputable def b_turns_of_f0 : MS := (mif (cor (mtest (m2 ltD (call1 max2F (acons (mvar 2) (acons (mvar 4) anil))) (mvar 3))) (mtest (m2 ltD (mvar 3) (call1 min2F (acons (mvar 2) (acons (mvar 4) anil)))))) (maug 1 (mc (.int 1))) mnext)
noncomputable def b_turns_of : MS := (mseq (mset 1 (mc (.int 0))) (mseq (mfor (mlist zip3 (acons (mvar 0) (acons (mlst (mcut (bvar 0) (osome (mc (.int 1))) onone)) (acons (mlst (mcut (bvar 0) (osome (mc (.int 2))) onone)) anil)))) (.tp [2, 3, 4]) b_turns_of_f0) (mretO 1)))
noncomputable def m_turns_of : MF := runB 5 b_turns_of
noncomputable def b_go_by_turns_f0 : MS := (mif (mtest (m2 ltD (call1 absF (acons (m2 subD (mvar 3) (mvar 2)) anil)) (mvar 1))) (mret (mc (.bl false))) mnext)
noncomputable def b_go_by_turns : MS := (mseq (mfor (mlist zip2 (acons (mvar 0) (acons (mlst (mcut (bvar 0) (osome (mc (.int 1))) onone)) anil))) (.tp [2, 3]) b_go_by_turns_f0) (mret (m2 eqSD (mcall m_turns_of (acons (mvar 0) anil)) (call1 max2F (acons (mc (.int 0)) (acons (m2 subD (mlen (bvar 0)) (mc (.int 2))) anil))))))
noncomputable def m_go_by_turns : MF := runB 4 b_go_by_turns
noncomputable def b_are_wavy : MS := (mseq (mexpr (mcall m_refuse_step (acons (mvar 1) anil))) (mret (mand (mcall m_are_places (acons (mvar 0) (acons (mvar 2) anil))) (mcall m_go_by_turns (acons (mlst (mcomp [none, some 0] (aslst (mvar 2)) (.nm 0) cyes (mix (bvar 1) (mvar 0)))) (acons (mvar 1) anil))))))
noncomputable def m_are_wavy : MF := runB 3 b_are_wavy
noncomputable def bx_are_wavy : MXs := (xE (xcall xm_refuse_step (acons (mvar 1) anil)))
noncomputable def xm_are_wavy : MFX := runX 3 bx_are_wavy
noncomputable def b_tails_f0 : MS := (mseq (mset 6 (m2 subD (mix (bvar 0) (mvar 5)) (mix (bvar 0) (mvar 4)))) (mseq (mif (cand (mtest (m2 geD (mvar 6) (mvar 1))) (mtest (m2 geD (mlen (aslst (mix (bvar 3) (mvar 5)))) (mlen (aslst (mix (bvar 2) (mvar 4))))))) (msetix 2 (mvar 4) (mlst (mcat (sized (acons (mvar 4) anil)) (aslst (mix (bvar 3) (mvar 5)))))) mnext) (mif (cand (mtest (m2 geD (m1 negD (mvar 6)) (mvar 1))) (mtest (m2 geD (mlen (aslst (mix (bvar 2) (mvar 5)))) (mlen (aslst (mix (bvar 3) (mvar 4))))))) (msetix 3 (mvar 4) (mlst (mcat (sized (acons (mvar 4) anil)) (aslst (mix (bvar 2) (mvar 5)))))) mnext)))
noncomputable def b_tails_f1 : MS := (mfor (mlist rng2 (acons (m2 addD (mvar 4) (mc (.int 1))) (acons (mlen (bvar 0)) anil))) (.nm 5) b_tails_f0)
noncomputable def b_tails_r2 : MS := (mfreeze 2 (mfreeze 3 (mret (mtup (acons (mvar 2) (acons (mvar 3) anil))))))
noncomputable def b_tails : MS := (mseq (msetF 2 (mcomp [none] (mlist rng1 (acons (mlen (bvar 0)) anil)) (.nm 0) cyes (mlst (sized (acons (mvar 0) anil))))) (mseq (msetF 3 (mcomp [none] (mlist rng1 (acons (mlen (bvar 0)) anil)) (.nm 0) cyes (mlst (sized (acons (mvar 0) anil))))) (mseq (mfor (mlist rngD (acons (mlen (bvar 0)) anil)) (.nm 4) b_tails_f1) b_tails_r2)))
noncomputable def m_tails : MF := runB 7 b_tails
noncomputable def b_longer_first : MS := (mret (mtup (acons (m1 negD (mlen (bvar 0))) (acons (mvar 0) anil))))
noncomputable def m_longer_first : MF := runB 1 b_longer_first
noncomputable def b_longest : MS := (mseq (mexpr (mcall m_refuse_step (acons (mvar 1) anil))) (mseq (masg (.tp [2, 3]) (mcall m_tails (acons (mvar 0) (acons (mvar 1) anil)))) (mret (mminK (fun d => shOf (m_longer_first [d])) (aslst (m2 addD (mvar 2) (mvar 3))) (mlst (sized anil))))))
noncomputable def m_longest : MF := runB 4 b_longest
noncomputable def bx_longest : MXs := (xE (xcall xm_refuse_step (acons (mvar 1) anil)))
noncomputable def xm_longest : MFX := runX 4 bx_longest
noncomputable def b_how_long : MS := (mret (mlen (aslst (mcall m_longest (acons (mvar 0) (acons (mvar 1) anil))))))
noncomputable def m_how_long : MF := runB 2 b_how_long
noncomputable def bx_how_long : MXs := (xE (xcall xm_longest (acons (mvar 0) (acons (mvar 1) anil))))
noncomputable def xm_how_long : MFX := runX 2 bx_how_long
noncomputable def b_first_break_f0 : MS := (mseq (mset 6 (m2 subD (mix (bvar 0) (mvar 5)) (mix (bvar 0) (mvar 4)))) (mseq (mif (mtest (m2 eqSD (mvar 2) (mc (.str "down")))) (mset 6 (m1 negD (mvar 6))) mnext) (mseq (mif (mtest (m2 leD (mvar 6) (m1 negD (mvar 1)))) (mretO 5) mnext) (mif (mtest (m2 gtD (mvar 6) (mc (.int 0)))) (mset 4 (mvar 5)) mnext))))
noncomputable def b_first_break : MS := (mseq (mset 4 (mvar 3)) (mseq (mfor (mlist rng2 (acons (mvar 3) (acons (mlen (bvar 0)) anil))) (.nm 5) b_first_break_f0) (mret (mlen (bvar 0)))))
noncomputable def m_first_break : MF := runB 7 b_first_break
noncomputable def b_are_cuts : MS := (mret (mand (mcall m_are_places (acons (mvar 0) (acons (mvar 1) anil))) (m2 (inD true) (mc (.int 0)) (mvar 1))))
noncomputable def m_are_cuts : MF := runB 2 b_are_cuts
noncomputable def b_pieces_show_f0 : MS := (mseq (mif (mtest (m2 ltD (mcall m_first_break (acons (mvar 0) (acons (mvar 1) (acons (mvar 6) (acons (mvar 7) anil))))) (mvar 8))) (mret (mc (.bl false))) mnext) (mset 6 (m1 (tabD tab_OTHER_KIND) (mvar 6))))
noncomputable def b_pieces_show : MS := (mseq (mexpr (mcall m_refuse_step (acons (mvar 1) anil))) (mseq (masg (.tp [3, 4]) (mvar 2)) (mseq (mif (cor (mtest (m1 (tabInD tab_OTHER_KIND true) (mvar 3))) (cnot (mtru (mcall m_are_cuts (acons (mvar 0) (acons (mvar 4) anil)))))) (mret (mc (.bl false))) mnext) (mseq (mset 5 (mminL (mcat (bvar 4) (sized (acons (mlen (bvar 0)) anil))))) (mseq (mif (mtest (m2 ltD (mcall m_first_break (acons (mvar 0) (acons (mvar 1) (acons (m1 (tabD tab_OTHER_KIND) (mvar 3)) (acons (mc (.int 0)) anil))))) (mvar 5))) (mret (mc (.bl false))) mnext) (mseq (mset 6 (mvar 3)) (mseq (mfor (mlist zip2 (acons (mlst (mcat (sized (acons (mc (.int 0)) anil)) (mcut (bvar 4) (osome (mc (.int 1))) onone))) (acons (mlst (mcat (mcut (bvar 4) (osome (mc (.int 1))) onone) (sized (acons (mlen (bvar 0)) anil)))) anil))) (.tp [7, 8]) b_pieces_show_f0) (mret (mc (.bl true))))))))))
noncomputable def m_pieces_show : MF := runB 9 b_pieces_show
noncomputable def bx_pieces_show : MXs := (xE (xcall xm_refuse_step (acons (mvar 1) anil)))
noncomputable def xm_pieces_show : MFX := runX 9 bx_pieces_show
noncomputable def b_pieces_of_f0 : MS := (mseq (mapp 6 (mvar 7)) (mseq (mset 7 (mcall m_first_break (acons (mvar 0) (acons (mvar 1) (acons (mvar 5) (acons (mvar 7) anil)))))) (mset 5 (m1 (tabD tab_OTHER_KIND) (mvar 5)))))
noncomputable def b_pieces_of_r1 : MS := (mfreeze 6 (mret (mtup (acons (mvar 4) (acons (mvar 6) anil)))))
noncomputable def b_pieces_of : MS := (mseq (mexpr (mcall m_refuse_step (acons (mvar 1) anil))) (mseq (mset 2 (mcall m_first_break (acons (mvar 0) (acons (mvar 1) (acons (mc (.str "up")) (acons (mc (.int 0)) anil)))))) (mseq (mset 3 (mcall m_first_break (acons (mvar 0) (acons (mvar 1) (acons (mc (.str "down")) (acons (mc (.int 0)) anil)))))) (mseq (mset 4 (mite (mtest (m2 ltD (mvar 2) (mvar 3))) (mc (.str "down")) (mc (.str "up")))) (mseq (mset 5 (mvar 4)) (mseq (msetF 6 (sized anil)) (mseq (mset 7 (call1 min2F (acons (mvar 2) (acons (mvar 3) anil)))) (mseq (whileD (mtest (m2 ltD (mvar 7) (mlen (bvar 0)))) b_pieces_of_f0 1000) b_pieces_of_r1))))))))
noncomputable def m_pieces_of : MF := runB 8 b_pieces_of
noncomputable def bx_pieces_of : MXs := (xE (xcall xm_refuse_step (acons (mvar 1) anil)))
noncomputable def xm_pieces_of : MFX := runX 8 bx_pieces_of
noncomputable def b_law_stir : MS := (mseq (mif (mtest (m2 geD (mvar 0) (m2 powD (mc (.int 10)) (mc (.int 18))))) (mret (m2 modD (m2 shrD (m2 subD (mvar 0) (m2 powD (mc (.int 10)) (mc (.int 18)))) (m2 mulD (mc (.int 28)) (mvar 1))) (m2 powD (mc (.int 2)) (mc (.int 28))))) mnext) (mseq (mset 2 (m2 modD (m2 mulD (m2 addD (m2 addD (mvar 0) (m2 mulD (mc (.int 1013)) (mvar 1))) (mc (.int 1))) (mc (.int 16807))) (mc (.int 2147483647)))) (mseq (mset 2 (m2 modD (m2 mulD (mvar 2) (mvar 2)) (mc (.int 2147483629)))) (mret (m2 fdivD (m2 modD (m2 mulD (mvar 2) (mc (.int 39373))) (mc (.int 2147483587))) (mc (.int 8)))))))
noncomputable def m_law_stir : MF := runB 3 b_law_stir
noncomputable def b_law_cells : MS := (mretF (mcut (mcat (mcut (bvar 0) onone (osome (mvar 1))) (sized (acons (mc (.int 0)) anil))) onone (osome (call1 max2F (acons (mc (.int 1)) (acons (call1 min2F (acons (mvar 1) (acons (mlen (bvar 0)) anil))) anil))))))
noncomputable def m_law_cells : MF := runB 2 b_law_cells
noncomputable def b_law_row_f0 : MS := (mseq (mset 9 (m2 modD (mcall m_law_stir (acons (mvar 0) (acons (m2 addD (mc (.int 10)) (mvar 8)) anil))) (mvar 4))) (mseq (mset 7 (m2 subD (m2 addD (mvar 7) (mvar 9)) (m2 fdivD (mvar 4) (mc (.int 2))))) (mseq (mset 10 (mlst (sized (acons (m2 subD (mvar 9) (m2 fdivD (mvar 4) (mc (.int 2)))) (acons (m2 addD (mvar 8) (m2 fdivD (mvar 9) (mc (.int 2)))) (acons (m2 subD (m2 subD (mc (.int 0)) (mvar 8)) (m2 fdivD (mvar 9) (mc (.int 2)))) (acons (mix (sized (acons (mvar 9) (acons (m2 subD (mc (.int 0)) (mvar 9)) anil))) (m2 modD (mvar 8) (mc (.int 2)))) anil))))))) (mseq (mset 10 (mlst (mcat (bvar 10) (sized (acons (m2 addD (mvar 9) (m2 mulD (m2 modD (m2 fdivD (mvar 8) (mvar 5)) (mc (.int 2))) (mvar 4))) (acons (mvar 4) (acons (m2 addD (m2 mulD (m2 subD (mvar 9) (m2 fdivD (mvar 4) (mc (.int 2)))) (m2 powD (mc (.int 10)) (mc (.int 23)))) (m2 modD (mcall m_law_stir (acons (mvar 0) (acons (m2 addD (mc (.int 10)) (mvar 8)) anil))) (mc (.int 3)))) anil))))))) (mapp 6 (mix (mcat (bvar 10) (sized (acons (mvar 7) anil))) (mvar 3)))))))
noncomputable def b_law_row : MS := (mseq (mset 2 (m2 modD (mcall m_law_stir (acons (mvar 0) (acons (mc (.int 0)) anil))) (mix (sized (acons (mc (.int 4)) (acons (mc (.int 13)) (acons (mc (.int 41)) (acons (m2 addD (mvar 1) (mc (.int 1))) anil))))) (m2 modD (mcall m_law_stir (acons (mvar 0) (acons (mc (.int 1)) anil))) (mc (.int 4)))))) (mseq (mset 3 (m2 modD (mcall m_law_stir (acons (mvar 0) (acons (mc (.int 2)) anil))) (mc (.int 8)))) (mseq (mset 4 (mix (sized (acons (mc (.int 2)) (acons (mc (.int 5)) (acons (mc (.int 50)) (acons (m2 powD (mc (.int 10)) (mc (.int 6))) anil))))) (m2 modD (mcall m_law_stir (acons (mvar 0) (acons (mc (.int 3)) anil))) (mc (.int 4))))) (mseq (mset 5 (m2 addD (mc (.int 1)) (m2 modD (mcall m_law_stir (acons (mvar 0) (acons (mc (.int 4)) anil))) (mc (.int 9))))) (mseq (msetF 6 (sized anil)) (mseq (mset 7 (mc (.int 0))) (mseq (mfor (mlist rng1 (acons (call1 min2F (acons (mvar 2) (acons (mvar 1) anil))) anil)) (.nm 8) b_law_row_f0) (mretO 6))))))))
noncomputable def m_law_row : MF := runB 11 b_law_row
noncomputable def b_law_step : MS := (mseq (mset 1 (mlst (sized (acons (mc (.int 1)) (acons (m2 addD (mc (.int 1)) (m2 modD (mcall m_law_stir (acons (mvar 0) (acons (mc (.int 5)) anil))) (mc (.int 9)))) (acons (m2 addD (mc (.int 1)) (m2 modD (mcall m_law_stir (acons (mvar 0) (acons (mc (.int 6)) anil))) (mc (.int 1000)))) anil)))))) (mret (mix (mcat (bvar 1) (sized (acons (m2 addD (mc (.int 1)) (m2 mulD (m2 modD (mcall m_law_stir (acons (mvar 0) (acons (mc (.int 6)) anil))) (m2 powD (mc (.int 10)) (mc (.int 6)))) (m2 powD (mc (.int 10)) (mc (.int 23))))) anil))) (m2 modD (mcall m_law_stir (acons (mvar 0) (acons (mc (.int 7)) anil))) (mc (.int 4))))))
noncomputable def m_law_step : MF := runB 2 b_law_step
noncomputable def b_law_flags : MS := (mseq (mset 1 (mlst (sized (acons (misX [("NoStep", true)] (mvar 0)) (acons (misX [("NoStep", false)] (mvar 0)) (acons (misX [("NoStep", false)] (mvar 0)) (acons (misX [("NoStep", false)] (mvar 0)) anil))))))) (mseq (mset 1 (mlst (mcat (bvar 1) (sized (acons (misX [("NoStep", false)] (mvar 0)) (acons (misX [("NoStep", false)] (mvar 0)) (acons (misX [("NoStep", false)] (mvar 0)) anil))))))) (mretF (mcat (bvar 1) (sized (acons (m1 notD (misX [("NoStep", true)] (mvar 0))) anil))))))
noncomputable def m_law_flags : MF := runB 2 b_law_flags
noncomputable def b_law_far : MS := (mret (mix (sized (acons (mc (.int 0)) (acons (mc (.int 1)) (acons (m2 modD (mcall m_law_stir (acons (mvar 0) (acons (m2 addD (mvar 1) (mc (.int 1))) anil))) (mc (.int 1000))) (acons (m2 powD (mc (.int 10)) (mc (.int 29))) anil))))) (m2 modD (mcall m_law_stir (acons (mvar 0) (acons (mvar 1) anil))) (mc (.int 4)))))
noncomputable def m_law_far : MF := runB 2 b_law_far
noncomputable def b_law_by_turns_f0 : MS := (mseq (mset 8 (mand (m2 eqSD (m2 andD (m2 shrD (mcall m_law_stir (acons (mvar 0) (acons (m2 addD (mvar 1) (m2 fdivD (mvar 6) (mc (.int 28)))) anil))) (m2 modD (mvar 6) (mc (.int 28)))) (mc (.int 1))) (mc (.int 1))) (m2 gtD (m2 modD (mvar 6) (mc (.int 3))) (mc (.int 0))))) (mif (cand (mtest (meqB false (bvar 4) (sized anil))) (cnot (mtru (mvar 8)))) (mapp 4 (mvar 6)) (mif (cand (mtest (meqB true (bvar 4) (sized anil))) (cnot (mtru (mvar 8)))) (mseq (mset 9 (m2 subD (mvar 7) (mix (bvar 2) (mix (bvar 4) (m1 negD (mc (.int 1))))))) (mif (cand (mtest (m2 geD (call1 absF (acons (mvar 9) anil)) (mvar 3))) (mtest (m2 neSD (mvar 5) (m2 gtD (mvar 9) (mc (.int 0)))))) (mseq (mset 5 (m2 gtD (mvar 9) (mc (.int 0)))) (mapp 4 (mvar 6))) mnext)) mnext)))
noncomputable def b_law_by_turns : MS := (mseq (msetF 4 (sized anil)) (mseq (mset 5 (mc .non)) (mseq (mfor (mlist enum1 (acons (mvar 2) anil)) (.tp [6, 7]) b_law_by_turns_f0) (mretO 4))))
noncomputable def m_law_by_turns : MF := runB 10 b_law_by_turns
noncomputable def b_law_refused : MS := (mseq (mset 4 (mlst (sized anil))) (mseq (mset 5 (mlst (sized (acons (mlst (bvar 1)) (acons (mlst (bvar 3)) anil))))) (mseq (mtry ["NoStep"] (mif (mtest (m2 eqSD (mvar 0) (mc (.int 0)))) (mexpr (mcall m_are_wavy (acons (mix (bvar 5) (mc (.int 0))) (acons (mvar 2) (acons (mix (bvar 5) (mc (.int 1))) anil))))) (mif (mtest (m2 eqSD (mvar 0) (mc (.int 1)))) (mexpr (mcall m_longest (acons (mix (bvar 5) (mc (.int 0))) (acons (mvar 2) anil)))) (mif (mtest (m2 eqSD (mvar 0) (mc (.int 2)))) (mexpr (mcall m_how_long (acons (mix (bvar 5) (mc (.int 0))) (acons (mvar 2) anil)))) (mif (mtest (m2 eqSD (mvar 0) (mc (.int 3)))) (mexpr (mcall m_pieces_of (acons (mix (bvar 5) (mc (.int 0))) (acons (mvar 2) anil)))) (mexpr (mcall m_pieces_show (acons (mix (bvar 5) (mc (.int 0))) (acons (mvar 2) (acons (mtup (acons (mix (sized (acons (mc (.str "up")) (acons (mc (.str "down")) (acons (mc (.str "x")) anil)))) (m2 subD (mvar 0) (mc (.int 4)))) (acons (mix (bvar 5) (mc (.int 1))) anil))) anil))))))))) (xif (mtest (m2 eqSD (mvar 0) (mc (.int 0)))) (xE (xcall xm_are_wavy (acons (mix (bvar 5) (mc (.int 0))) (acons (mvar 2) (acons (mix (bvar 5) (mc (.int 1))) anil))))) (xif (mtest (m2 eqSD (mvar 0) (mc (.int 1)))) (xE (xcall xm_longest (acons (mix (bvar 5) (mc (.int 0))) (acons (mvar 2) anil)))) (xif (mtest (m2 eqSD (mvar 0) (mc (.int 2)))) (xE (xcall xm_how_long (acons (mix (bvar 5) (mc (.int 0))) (acons (mvar 2) anil)))) (xif (mtest (m2 eqSD (mvar 0) (mc (.int 3)))) (xE (xcall xm_pieces_of (acons (mix (bvar 5) (mc (.int 0))) (acons (mvar 2) anil)))) (xE (xcall xm_pieces_show (acons (mix (bvar 5) (mc (.int 0))) (acons (mvar 2) (acons (mtup (acons (mix (sized (acons (mc (.str "up")) (acons (mc (.str "down")) (acons (mc (.str "x")) anil)))) (m2 subD (mvar 0) (mc (.int 4)))) (acons (mix (bvar 5) (mc (.int 1))) anil))) anil))))))))) 6 (mset 4 (mcall m_law_flags (acons (mvar 6) anil)))) (mseq (mif (mtest (meqB true (bvar 5) (sized (acons (mvar 1) (acons (mvar 3) anil))))) (mretF (sized (acons (mc (.str "changed")) anil))) mnext) (mretO 4)))))
noncomputable def m_law_refused : MF := runB 7 b_law_refused
noncomputable def b_law_f0 : MS := (mif (mtest (meqB true (aslst (mcall m_law_refused (acons (mvar 7) (acons (mvar 2) (acons (mvar 5) (acons (mvar 6) anil)))))) (mcomp [none] (mlist rng1 (acons (mc (.int 8)) anil)) (.nm 0) cyes (m2 eqSD (mvar 0) (mc (.int 0)))))) (mret (mc (.bl false))) mnext)
noncomputable def b_law_f1 : MS := (mfor (mlist rng1 (acons (mc (.int 7)) anil)) (.nm 7) b_law_f0)
noncomputable def b_law_f2 : MS := (mfor (aslst (mlst (sized (acons (mvar 4) (acons (mlst (mrev (bvar 4) (osome (m1 negD (mc (.int 1)))))) (acons (mlst (sized (acons (mlen (bvar 2)) anil))) (acons (mlst (sized (acons (m1 negD (mc (.int 1))) anil))) (acons (mlst (sized anil)) anil)))))))) (.nm 6) b_law_f1)
noncomputable def b_law_f3 : MS := (mseq (mset 2 (mcall m_law_row (acons (mvar 1) (acons (mc (.int 40)) anil)))) (mseq (mset 3 (mcall m_law_step (acons (mvar 1) anil))) (mseq (mset 4 (mcall m_law_by_turns (acons (mvar 1) (acons (mc (.int 350)) (acons (mvar 2) (acons (mvar 3) anil)))))) (mseq (mfor (aslst (mlst (sized (acons (mc (.int 0)) (acons (m1 negD (mc (.int 1))) (acons (m2 subD (mc (.int 0)) (mcall m_law_far (acons (mvar 1) (acons (mc (.int 320)) anil)))) (acons (m2 subD (mc (.int 0)) (mvar 3)) anil))))))) (.nm 5) b_law_f2) (mif (mtest (meqB true (mcomp [none, some 2, some 3, some 4] (mlist rng1 (acons (mc (.int 7)) anil)) (.nm 0) (mtest (meqB true (aslst (mcall m_law_refused (acons (mvar 0) (acons (mvar 1) (acons (mvar 2) (acons (mvar 3) anil)))))) (sized anil))) (mvar 0)) (sized anil))) (mret (mc (.bl false))) mnext)))))
noncomputable def b_law : MS := (mseq (mfor (aslst (mcall m_law_cells (acons (mvar 0) (acons (mc (.int 8)) anil)))) (.nm 1) b_law_f3) (mret (mc (.bl true))))
noncomputable def m_law : MF := runB 8 b_law
end
end Lw

set_option Elab.async false
set_option linter.all false
set_option maxRecDepth 100000
set_option maxHeartbeats 4000000
namespace Lw
open PySem L2
theorem eqS_ii (i j : Int) : eqS (.int i) (.int j) = some (i == j) := rfl
theorem eqS_bb (i j : Bool) : eqS (.bl i) (.bl j) = some (i == j) := rfl
theorem eqS_ss (i j : Str) : eqS (.str i) (.str j) = some (i == j) := rfl
theorem eqS_nn : eqS .non .non = some true := rfl
theorem eqS_nb (j : Bool) : eqS .non (.bl j) = some false := rfl
theorem eqS_bn (j : Bool) : eqS (.bl j) .non = some false := rfl
theorem eqS_ni (j : Int) : eqS .non (.int j) = some false := rfl
theorem eqS_in (j : Int) : eqS (.int j) .non = some false := rfl
local macro_rules | `(tactic| simp_arith [$ls,*]) => `(tactic| simp (config := {decide := true, implicitDefEqProofs := false}) only [runB, startS, List.map_cons, List.map_nil, List.length_cons, List.length_nil, List.replicate, List.cons_append, List.nil_append, mvar, bvar, mc, mlst, aslst, m2, mtest, subD, mulD, fdivD, modD, powD, shlD, shrD, andD, ltD, leD, gtD, geD, eqSD, neSD, eqS_ii, eqS_bb, eqS_ss, eqS_nn, eqS_nb, eqS_bn, eqS_ni, eqS_in, m1, negD, notD, mand, mor, mtru, truD, cand, cor, cnot, mite, anil, acons, sized, mtup, mlen, mix, onone, osome, mcut, mcat, addD, call1, lenF, absF, max2F, min2F, two2, intF, mnext, mseq, mif, mnever, mbreak, mcont, mset, msetF, maug, mexpr, mret, mretF, mretO, mretN, mapp, msetix, mfreeze, masg, mlist, zip2, zip3, enum1, cyes, mcall, mcallF, meqB, misi, mrev, msetix2, tyD, int2, bl2, tgD, setAll, Option.bind_some, Option.map_some, Option.bind_none, Option.map_none, List.getElem?_cons_zero, List.getElem?_cons_succ, List.set_cons_zero, List.set_cons_succ, List.isEmpty_cons, List.isEmpty_nil, Bool.not_true, Bool.not_false, $ls,*])
theorem refuse_step_eq (step : Int) (h : 1 ≤ step) : m_refuse_step [.int step] = some (.sh .non) := by
  have : ¬ step < 1 := by omega
  unfold m_refuse_step b_refuse_step
  simp_arith [this, decide_false]
noncomputable def stir (c k : Int) : Int := if 10 ^ 18 ≤ c then (c - 10 ^ 18) / 2 ^ (28 * k).toNat % 2 ^ 28 else
  (((c + 1013 * k + 1) * 16807 % 2147483647) * ((c + 1013 * k + 1) * 16807 % 2147483647) % 2147483629) * 39373 % 2147483587 / 8
theorem stir_nonneg (c k : Int) : 0 ≤ stir c k := by
  unfold stir
  split
  · exact Int.emod_nonneg _ (by decide)
  · exact Int.ediv_nonneg (Int.emod_nonneg _ (by decide)) (by decide)
theorem mulOk_r (i j : Int) (h1 : -(2 ^ 64) < j) (h2 : j < 2 ^ 64) : mulOk i j = true := by
  unfold mulOk; simp only [h1, h2, decide_true, Bool.and_self, Bool.or_true]
theorem mulOk_l (i j : Int) (h1 : -(2 ^ 64) < i) (h2 : i < 2 ^ 64) : mulOk i j = true := by
  unfold mulOk; simp only [h1, h2, decide_true, Bool.and_self, Bool.true_or]
theorem modOk_of (i j : Int) (h : 0 < j) : modOk i j = true := by unfold modOk; simp only [h, decide_true]
theorem stir_eq (c k : Int) (hk : 0 ≤ k) : m_law_stir [.int c, .int k] = some (.sh (.int (stir c k))) := by
  have hp : ((10 : Int) ^ (18 : Int).toNat) = 10 ^ 18 := rfl
  have hp2 : ((2 : Int) ^ (28 : Int).toNat) = 2 ^ 28 := rfl
  have o1 : powOk 10 18 = true := by decide
  have o2 : powOk 2 28 = true := by decide
  have o3 : mulOk 28 k = true := mulOk_l _ _ (by decide) (by decide)
  have o4 : mulOk 1013 k = true := mulOk_l _ _ (by decide) (by decide)
  have o5 : mulOk (c + 1013 * k + 1) 16807 = true := mulOk_r _ _ (by decide) (by decide)
  have o6 : shrOk (c - 10 ^ 18) (28 * k) = true := by unfold shrOk; exact decide_eq_true (by omega)
  have o7 : mulOk ((c + 1013 * k + 1) * 16807 % 2147483647) ((c + 1013 * k + 1) * 16807 % 2147483647) = true := mulOk_l _ _ (by omega) (by omega)
  have o8 : mulOk (((c + 1013 * k + 1) * 16807 % 2147483647) * ((c + 1013 * k + 1) * 16807 % 2147483647) % 2147483629) 39373 = true := mulOk_r _ _ (by decide) (by decide)
  have q1 : ∀ i, modOk i (2 ^ 28) = true := fun i => modOk_of _ _ (by decide)
  have q2 : ∀ i, modOk i 2147483647 = true := fun i => modOk_of _ _ (by decide)
  have q3 : ∀ i, modOk i 2147483629 = true := fun i => modOk_of _ _ (by decide)
  have q4 : ∀ i, modOk i 2147483587 = true := fun i => modOk_of _ _ (by decide)
  have f1 : ∀ i, fdivOk i 8 = true := fun i => by unfold fdivOk; decide
  unfold m_law_stir b_law_stir stir
  by_cases h : 10 ^ 18 ≤ c
  · simp_arith [hp, hp2, o1, o2, o3, o6, q1, h, decide_true, if_true]
  · simp_arith [hp, hp2, o1, o2, o3, o4, o5, o7, o8, q1, q2, q3, q4, f1, h, decide_false, if_true, if_false]
section
open PySem L2
theorem seqI {x y : MS} {ρ ρ' : Ro} {o : Option Out} (h : x ρ = some (.nx ρ')) (h2 : y ρ' = o) : mseq x y ρ = o := by
  unfold mseq; rw [h]; exact h2
noncomputable def stepO {α : Type} (I : List α → Ro → Prop) (Q : Out → Prop) (ds : List α) : Out → Prop
  | .nx ρ => I ds ρ | .ct ρ => I ds ρ | .bk ρ => Q (.nx ρ) | .rt d => Q (.rt d) | .rf es => Q (.rf es) | .rp d es => Q (.rp d es) | .rg d p r => Q (.rg d p r) | .rgf d p r => Q (.rgf d p r)
theorem forD_post {α : Type} {g : Tg} {body : MS} {f : α → D} (I : List α → Ro → Prop) (Q : Out → Prop)
    (hs : ∀ d ds ρ, I (d :: ds) ρ → ∃ ρ1 o, tgD g (f d) ρ = some ρ1 ∧ body ρ1 = some o ∧ stepO I Q ds o) (hd : ∀ ρ, I [] ρ → Q (.nx ρ)) :
    ∀ (ds : List α) (ρ : Ro), I ds ρ → ∃ o, forD g body (ds.map f) ρ = some o ∧ Q o
  | [], ρ, h => ⟨.nx ρ, rfl, hd ρ h⟩
  | d :: ds, ρ, h => by
    obtain ⟨ρ1, o, h1, h2, h3⟩ := hs d ds ρ h
    rw [List.map_cons]
    unfold forD
    rw [h1]
    simp only [h2]
    cases o with
    | nx ρ2 => exact forD_post I Q hs hd ds ρ2 h3
    | ct ρ2 => exact forD_post I Q hs hd ds ρ2 h3
    | bk ρ2 => exact ⟨_, rfl, h3⟩
    | rt d => exact ⟨_, rfl, h3⟩
    | rf d => exact ⟨_, rfl, h3⟩
    | rp d es => exact ⟨_, rfl, h3⟩
    | rg d p r => exact ⟨_, rfl, h3⟩
    | rgf d p r => exact ⟨_, rfl, h3⟩
theorem compD_map {α : Type} {g : Tg} {c : MB} {elt : ME} {f : α → D} {G : α → D} (I : List α → Ro → Prop)
    (hs : ∀ d ds ρ, I (d :: ds) ρ → ∃ ρ1, tgD g (f d) ρ = some ρ1 ∧ c ρ1 = some true ∧ elt ρ1 = some (G d) ∧ I ds ρ1) :
    ∀ (ds : List α) (ρ : Ro) (acc : List D), I ds ρ → acc.length + ds.length ≤ sizeLine → compD g c elt (ds.map f) ρ acc = some (acc ++ ds.map G)
  | [], ρ, acc, h, hl => by simp [compD]
  | d :: ds, ρ, acc, h, hl => by
    obtain ⟨ρ1, h1, h2, h3, h4⟩ := hs d ds ρ h
    rw [List.map_cons]
    unfold compD
    rw [h1]
    simp only [h2, h3]
    rw [List.length_cons] at hl
    rw [if_pos (by omega), compD_map I hs ds ρ1 _ h4 (by simp; omega)]
    simp
noncomputable def cutI {α : Type} (xs : List α) (lo hi : Option Int) : List α := (xs.drop (HT.sIx xs.length 0 lo)).take (HT.sIx xs.length xs.length hi - HT.sIx xs.length 0 lo)
theorem cutL_map {α : Type} (f : α → D) (xs : List α) (lo hi : Option Int) : cutL (xs.map f) lo hi = (cutI xs lo hi).map f := by
  unfold cutL cutI; rw [List.length_map, ← List.map_drop, ← List.map_take]
theorem cutI_from {α : Type} (xs : List α) (k : Nat) : cutI xs (some (k : Int)) none = xs.drop k := by
  unfold cutI
  rw [HT.sIx_nat, HT.sIx_none]
  rcases Nat.le_total k xs.length with h | h
  · rw [Nat.min_eq_left h]; exact List.take_of_length_le (by simp)
  · rw [Nat.min_eq_right h]; simp [List.drop_eq_nil_of_le h]
theorem cutI_to {α : Type} (xs : List α) (k : Nat) : cutI xs none (some (k : Int)) = xs.take k := by
  unfold cutI
  rw [HT.sIx_nat, HT.sIx_none]
  simp
theorem atI_map {α : Type} (f : α → D) (xs : List α) (k : Int) (h0 : 0 ≤ k) (h1 : k < xs.length) (dflt : α) : atI (xs.map f) k = some (f (xs.getD k.toNat dflt)) := by
  unfold atI ixN
  rw [List.length_map, if_pos h0, if_pos h1]
  have hl : k.toNat < xs.length := by omega
  simp [List.getElem?_map, hl]
theorem atI_last {α : Type} (f : α → D) (xs : List α) (x : α) : atI ((xs ++ [x]).map f) (-1) = some (f x) := by
  unfold atI ixN
  rw [List.length_map, if_neg (by decide), if_pos (by simp; omega)]
  have e : (-1 + ((xs ++ [x]).length : Int)).toNat = xs.length := by simp; omega
  rw [e]
  simp
end

section
open PySem L2
theorem runB_rt {n : Nat} {m : MS} {ds : List D} {d : D} (h : m (startS n ds) = some (.rt d)) : runB n m ds = some (.sh d) := by unfold runB; rw [h]
theorem runB_rf {n : Nat} {m : MS} {ds : List D} {d : List D} (h : m (startS n ds) = some (.rf d)) : runB n m ds = some (.fr d) := by unfold runB; rw [h]
noncomputable def after (rest : MS) : Out → Option Out
  | .nx ρ => rest ρ | .bk ρ => some (.bk ρ) | .ct ρ => some (.ct ρ) | .rt d => some (.rt d) | .rf d => some (.rf d) | .rp d es => some (.rp d es) | .rg d p r => some (.rg d p r) | .rgf d p r => some (.rgf d p r)
theorem seq_after {x y : MS} {ρ : Ro} {o : Out} (h : x ρ = some o) : mseq x y ρ = after y o := by
  unfold mseq; rw [h]; cases o <;> rfl
theorem seq_for {α : Type} {mi : ML} {g : Tg} {body rest : MS} {ρ : Ro} {res : Option Out} {f : α → D} (ds : List α) (hi : mi ρ = some (ds.map f)) (I : List α → Ro → Prop) (Q : Out → Prop) (h0 : I ds ρ)
    (hs : ∀ d ds ρ, I (d :: ds) ρ → ∃ ρ1 o, tgD g (f d) ρ = some ρ1 ∧ body ρ1 = some o ∧ stepO I Q ds o) (hd : ∀ ρ, I [] ρ → Q (.nx ρ)) (hq : ∀ o, Q o → after rest o = res) : mseq (mfor mi g body) rest ρ = res := by
  obtain ⟨o, e, q⟩ := forD_post (g := g) (body := body) I Q hs hd ds ρ h0
  rw [seq_after (o := o) (by unfold mfor; rw [hi]; exact e)]
  exact hq o q
noncomputable def pok (n : Nat) : Int → List Int → Bool
  | _, [] => true
  | l, p :: ps => if p < l ∨ (n : Int) ≤ p then false else pok n (p + 1) ps
theorem are_places_eq (row places : List Int) : m_are_places [.lst (row.map .int), .lst (places.map .int)] = some (.sh (.bl (pok row.length 0 places))) := by
  unfold m_are_places b_are_places
  refine runB_rt ?_
  ((apply seqI; focus (simp_arith []; rfl)))
  refine seq_for places (f := D.int) (by simp_arith []) (I := fun ps ρ => ∃ l x, ρ = [some (.sh (.lst (row.map .int))), some (.sh (.lst (places.map .int))), some (.sh (.int l)), x] ∧ pok row.length 0 places = pok row.length l ps)
    (Q := fun o => (∃ ρ, o = .nx ρ ∧ pok row.length 0 places = true) ∨ (o = .rt (.bl false) ∧ pok row.length 0 places = false)) ⟨0, none, rfl, rfl⟩ ?_ ?_ ?_
  · rintro p ps ρ ⟨l, x, rfl, e⟩
    simp only [pok] at e
    by_cases h1 : p < l
    · rw [if_pos (Or.inl h1)] at e
      exact ⟨_, .rt (.bl false), rfl, by unfold b_are_places_f0; simp_arith [List.length_map, h1, decide_true], Or.inr ⟨rfl, e⟩⟩
    · by_cases h2 : (row.length : Int) ≤ p
      · rw [if_pos (Or.inr h2)] at e
        exact ⟨_, .rt (.bl false), rfl, by unfold b_are_places_f0; simp_arith [List.length_map, h1, h2, decide_true, decide_false], Or.inr ⟨rfl, e⟩⟩
      · rw [if_neg (by omega)] at e
        exact ⟨_, .nx _, rfl, by unfold b_are_places_f0; simp_arith [List.length_map, h1, h2, decide_true, decide_false]; rfl, _, _, rfl, e⟩
  · rintro ρ ⟨l, x, rfl, e⟩
    exact Or.inl ⟨_, rfl, e⟩
  · rintro o (⟨ρ, rfl, e⟩ | ⟨rfl, e⟩)
    · rw [e]; rfl
    · rw [e]; rfl
noncomputable def turn (t : Int × Int × Int) : Bool := decide (max t.1 t.2.2 < t.2.1) || decide (t.2.1 < min t.1 t.2.2)
noncomputable def trip : List Int → List (Int × Int × Int)
  | a :: b :: c :: r => (a, b, c) :: trip (b :: c :: r)
  | _ => []
theorem zipW3_trip : ∀ ns : List Int, zipW3 (ns.map .int) ((ns.drop 1).map .int) ((ns.drop 2).map .int) = (trip ns).map fun t => .tup [.int t.1, .int t.2.1, .int t.2.2]
  | [] => rfl
  | [_] => rfl
  | [_, _] => rfl
  | a :: b :: c :: r => by
    have := zipW3_trip (b :: c :: r)
    simp only [List.drop_succ_cons, List.drop_zero, List.map_cons] at this
    simp only [List.drop_succ_cons, List.drop_zero, List.map_cons, trip, zipW3, List.cons.injEq, true_and]
    exact this
theorem max_if (i j : Int) : (if j > i then j else i) = max i j := by omega
theorem min_if (i j : Int) : (if j < i then j else i) = min i j := by omega
theorem abs_if (i : Int) : (if i < 0 then -i else i) = (i.natAbs : Int) := by omega
theorem turns_of_eq (ns : List Int) : m_turns_of [.lst (ns.map .int)] = some (.sh (.int (((trip ns).filter turn).length : Nat))) := by
  unfold m_turns_of b_turns_of
  refine runB_rt ?_
  ((apply seqI; focus (simp_arith []; rfl)))
  have h1 : cutI ns (some 1) none = ns.drop 1 := cutI_from ns 1
  have h2 : cutI ns (some 2) none = ns.drop 2 := cutI_from ns 2
  refine seq_for (trip ns) (f := fun t => .tup [.int t.1, .int t.2.1, .int t.2.2]) (by simp_arith [cutL_map, h1, h2, zipW3_trip]) (I := fun ts ρ => ∃ k : Nat, ∃ x y z, ρ = [some (.sh (.lst (ns.map .int))), some (.sh (.int (k : Nat))), x, y, z] ∧ ((trip ns).filter turn).length = k + (ts.filter turn).length)
    (Q := fun o => ∃ x y z, o = .nx [some (.sh (.lst (ns.map .int))), some (.sh (.int (((trip ns).filter turn).length : Nat))), x, y, z]) ⟨0, none, none, none, rfl, by simp⟩ ?_ ?_ ?_
  · rintro ⟨a, b, c⟩ ts ρ ⟨k, x, y, z, rfl, e⟩
    refine ⟨_, .nx [some (.sh (.lst (ns.map .int))), some (.sh (.int ((k + if turn (a, b, c) then 1 else 0 : Nat) : Nat))), some (.sh (.int a)), some (.sh (.int b)), some (.sh (.int c))], rfl, ?_, ?_⟩
    · unfold b_turns_of_f0
      by_cases q1 : max a c < b
      · have t : turn (a, b, c) = true := by unfold turn; simp [q1]
        simp_arith [max_if, min_if, q1, decide_true, t, if_true]; simp
      · by_cases q2 : b < min a c
        · have t : turn (a, b, c) = true := by unfold turn; simp [q2]
          simp_arith [max_if, min_if, q1, q2, decide_true, decide_false, t, if_true]; simp
        · have t : turn (a, b, c) = false := by unfold turn; simp [q1, q2]
          simp_arith [max_if, min_if, q1, q2, decide_true, decide_false, t, if_true]; simp
    · refine ⟨_, _, _, _, rfl, ?_⟩
      rw [e, List.filter_cons]
      split <;> simp_all <;> omega
  · rintro ρ ⟨k, x, y, z, rfl, e⟩
    exact ⟨x, y, z, by rw [e]; simp⟩
  · rintro o ⟨x, y, z, rfl⟩
    unfold after
    simp_arith []
end

section
open PySem L2
noncomputable def num (row : List Int) (p : Int) : Int := row.getD p.toNat 0
noncomputable def pairs (ns : List Int) : List (Int × Int) := ns.zip (ns.drop 1)
noncomputable def farOk (step : Int) (p : Int × Int) : Bool := decide (step ≤ ((p.2 - p.1).natAbs : Int))
noncomputable def areW (row : List Int) (step : Int) (places : List Int) : Bool :=
  pok row.length 0 places && ((pairs (places.map (num row))).all (farOk step) && decide ((((trip (places.map (num row))).filter turn).length : Int) = max 0 ((places.length : Int) - 2)))
theorem pok_mem {n : Nat} : ∀ {l : Int} {ps : List Int}, 0 ≤ l → pok n l ps = true → ∀ p ∈ ps, 0 ≤ p ∧ p < n
  | l, [], _, _, p, hp => by simp at hp
  | l, q :: ps, hl, h, p, hp => by
    simp only [pok] at h
    split at h
    · cases h
    · rename_i hn
      rcases List.mem_cons.mp hp with rfl | hp
      · omega
      · exact pok_mem (by omega) h p hp
theorem zip_pairs : ∀ (as bs : List Int), List.zipWith (fun d e => D.tup [d, e]) (as.map .int) (bs.map .int) = (as.zip bs).map fun p => .tup [.int p.1, .int p.2]
  | [], _ => by simp
  | _ :: _, [] => by simp
  | a :: as, b :: bs => by simp [zip_pairs as bs]
theorem go_by_turns_eq (ns : List Int) (step : Int) : m_go_by_turns [.lst (ns.map .int), .int step] = some (.sh (.bl ((pairs ns).all (farOk step) && decide ((((trip ns).filter turn).length : Int) = max 0 ((ns.length : Int) - 2))))) := by
  unfold m_go_by_turns b_go_by_turns
  refine runB_rt ?_
  have c1 : cutI ns (some 1) none = ns.drop 1 := cutI_from _ 1
  refine seq_for (pairs ns) (f := fun p => .tup [.int p.1, .int p.2]) (by simp_arith [cutL_map, c1, zip_pairs]; rfl)
    (I := fun ps ρ => ∃ x y, ρ = [some (.sh (.lst (ns.map .int))), some (.sh (.int step)), x, y] ∧ (pairs ns).all (farOk step) = ps.all (farOk step))
    (Q := fun o => (∃ x y, o = .nx [some (.sh (.lst (ns.map .int))), some (.sh (.int step)), x, y] ∧ (pairs ns).all (farOk step) = true) ∨ (o = .rt (.bl false) ∧ (pairs ns).all (farOk step) = false))
    ⟨none, none, rfl, rfl⟩ ?_ ?_ ?_
  · rintro ⟨a, b⟩ ps ρ ⟨x, y, rfl, e⟩
    rw [List.all_cons] at e
    by_cases h2 : ((b - a).natAbs : Int) < step
    · have hf : farOk step (a, b) = false := by unfold farOk; exact decide_eq_false (by omega)
      rw [hf, Bool.false_and] at e
      exact ⟨_, .rt (.bl false), rfl, by unfold b_go_by_turns_f0; simp_arith [abs_if, h2, decide_true], Or.inr ⟨rfl, e⟩⟩
    · have hf : farOk step (a, b) = true := by unfold farOk; exact decide_eq_true (by omega)
      rw [hf, Bool.true_and] at e
      exact ⟨_, .nx _, rfl, by unfold b_go_by_turns_f0; simp_arith [abs_if, h2, decide_false]; rfl, _, _, rfl, e⟩
  · rintro ρ ⟨x, y, rfl, e⟩
    exact Or.inl ⟨x, y, rfl, e⟩
  · rintro o (⟨x, y, rfl, e⟩ | ⟨rfl, e⟩)
    · rw [e, Bool.true_and]
      unfold after
      simp_arith [turns_of_eq, List.length_map, max_if]
      rfl
    · rw [e]; rfl
theorem are_wavy_eq (row places : List Int) (step : Int) (h1 : 1 ≤ step) (hl : places.length < sizeLine) : m_are_wavy [.lst (row.map .int), .int step, .lst (places.map .int)] = some (.sh (.bl (areW row step places))) := by
  unfold m_are_wavy b_are_wavy areW
  refine runB_rt ?_
  refine seqI (ρ' := [some (.sh (.lst (row.map .int))), some (.sh (.int step)), some (.sh (.lst (places.map .int)))]) (by simp_arith [refuse_step_eq step h1]; rfl) ?_
  cases hp : pok row.length 0 places with
  | false =>
    simp_arith [are_places_eq, hp]
    rfl
  | true =>
    have hm := pok_mem (Int.le_refl 0) hp
    have hc : mcomp [none, some 0] (aslst (mvar 2)) (.nm 0) cyes (mix (bvar 1) (mvar 0)) [some (.sh (.lst (row.map .int))), some (.sh (.int step)), some (.sh (.lst (places.map .int)))] = some ((places.map (num row)).map .int) := by
      unfold mcomp
      simp_arith [blkRo]
      rw [compD_map (f := D.int) (G := fun p => D.int (num row p)) (fun ps ρ => ∃ x, ρ = [x, some (.sh (.lst (row.map .int)))] ∧ ∀ p ∈ ps, 0 ≤ p ∧ p < row.length)
        (by
          rintro p ps ρ ⟨x, rfl, hh⟩
          have := hh p (by simp)
          exact ⟨_, rfl, rfl, by simp_arith [atI_map D.int row p this.1 this.2 0]; rfl, _, rfl, fun q hq => hh q (by simp [hq])⟩) places _ [] ⟨none, rfl, hm⟩ (by simp; omega)]
      simp
    simp_arith [are_places_eq, hp, hc, go_by_turns_eq, List.length_map, Bool.true_and]
noncomputable def wD : Option Bool → D
  | none => .non
  | some b => .bl b
end

section
open PySem L2
end

section
open PySem L2
theorem size_big : 1000000 ≤ sizeLine := by rw [show sizeLine = 2 ^ 24 from rfl]; decide
theorem le_size {n : Nat} (h : n ≤ 1000000) : n ≤ sizeLine := Nat.le_trans h size_big
theorem range_cons (j n : Nat) (h : j < n) : List.range' j (n - j) = j :: List.range' (j + 1) (n - (j + 1)) := by
  have : n - j = (n - (j + 1)) + 1 := by omega
  rw [this, List.range'_succ]
theorem mod_cases {x n : Int} (hn : 0 < n) : 0 ≤ x % n ∧ x % n < n := ⟨Int.emod_nonneg _ (by omega), Int.emod_lt_of_pos _ hn⟩
theorem cells_eq (ns : List Int) (many : Nat) (hl : ns.length ≤ 63) : ∃ cs : List Int, m_law_cells [.lst (ns.map .int), .int many] = some (.fr (cs.map .int)) := by
  unfold m_law_cells b_law_cells
  have e1 : cutL (ns.map D.int) none (some (many : Int)) = (ns.take many).map .int := by rw [cutL_map, cutI_to]
  have e2 : [D.int 0] = ([0] : List Int).map .int := rfl
  have g : ((ns.take many).map D.int).length + [D.int 0].length ≤ sizeLine := le_size (by simp; omega)
  have g2 : 1 ≤ sizeLine := le_size (by decide)
  refine ⟨cutI (ns.take many ++ [0]) none (some (max 1 (min (many : Int) (ns.length : Int)))), runB_rf ?_⟩
  simp_arith [e1, g2, if_true, List.length_map, max_if, min_if]
  have g3 : (ns.take many).length + (0 + 1) ≤ sizeLine := le_size (by simp; omega)
  rw [if_pos g3]
  simp_arith []
  rw [e2, ← List.map_append, cutL_map]
theorem step_eq (c : Int) : ∃ s : Int, 1 ≤ s ∧ m_law_step [.int c] = some (.sh (.int s)) := by
  unfold m_law_step b_law_step
  have n5 := stir_nonneg c 5
  have n6 := stir_nonneg c 6
  have n7 := stir_nonneg c 7
  have s5 := stir_eq c 5 (by decide)
  have s6 := stir_eq c 6 (by decide)
  have s7 := stir_eq c 7 (by decide)
  have g3 : 0 + 1 + 1 + 1 ≤ sizeLine := le_size (by decide)
  have g1 : 0 + 1 ≤ sizeLine := le_size (by decide)
  have g4 : 0 + 1 + 1 + 1 + (0 + 1) ≤ sizeLine := le_size (by decide)
  have p6 : (10 : Int) ^ (6 : Int).toNat = 1000000 := by decide
  have p23 : (10 : Int) ^ (23 : Int).toNat = 100000000000000000000000 := by decide
  have o6 : powOk 10 6 = true := by decide
  have o23 : powOk 10 23 = true := by decide
  have mo : ∀ i j : Int, 0 < j → modOk i j = true := modOk_of
  have b6 := mod_cases (x := stir c 6) (show (0 : Int) < 1000000 by decide)
  have mu : mulOk (stir c 6 % 1000000) 100000000000000000000000 = true := mulOk_l _ _ (by omega) (by omega)
  have b7 := mod_cases (x := stir c 7) (show (0 : Int) < 4 by decide)
  have b5 := mod_cases (x := stir c 5) (show (0 : Int) < 9 by decide)
  have b6' := mod_cases (x := stir c 6) (show (0 : Int) < 1000 by decide)
  have main : ∀ k : Int, stir c 7 % 4 = k → ∀ s : D, atI [D.int 1, .int (1 + stir c 5 % 9), .int (1 + stir c 6 % 1000), .int (1 + stir c 6 % 1000000 * 100000000000000000000000)] k = some s → b_law_step (startS 2 [.int c]) = some (.rt s) := by
    intro k hk s hs
    unfold b_law_step
    ((apply seqI; focus (simp_arith [s5, s6, g3, if_true, mo 0 9, modOk_of (stir c 5) 9 (by decide), modOk_of (stir c 6) 1000 (by decide)]; rfl)))
    simp_arith [s5, s6, s7, g1, g4, if_true, modOk_of (stir c 6) 1000000 (by decide), modOk_of (stir c 7) 4 (by decide), p6, p23, o6, o23, mu, hk, hs]
  have : stir c 7 % 4 = 0 ∨ stir c 7 % 4 = 1 ∨ stir c 7 % 4 = 2 ∨ stir c 7 % 4 = 3 := by omega
  rcases this with h | h | h | h
  · exact ⟨_, by decide, runB_rt (main _ h _ rfl)⟩
  · exact ⟨_, by omega, runB_rt (main _ h _ rfl)⟩
  · exact ⟨_, by omega, runB_rt (main _ h _ rfl)⟩
  · exact ⟨_, by omega, runB_rt (main _ h _ rfl)⟩
end

section
open PySem L2
noncomputable def Run (m : MS) (ρ : Ro) (R : Out → Prop) : Prop := ∃ o, m ρ = some o ∧ R o
noncomputable def afterR (rest : MS) (R : Out → Prop) : Out → Prop
  | .nx ρ => Run rest ρ R | .bk ρ => R (.bk ρ) | .ct ρ => R (.ct ρ) | .rt d => R (.rt d) | .rf d => R (.rf d) | .rp d es => R (.rp d es) | .rg d p r => R (.rg d p r) | .rgf d p r => R (.rgf d p r)
theorem run_seq {x y : MS} {ρ ρ' : Ro} {R : Out → Prop} (h : x ρ = some (.nx ρ')) (h2 : Run y ρ' R) : Run (mseq x y) ρ R := by
  obtain ⟨o, e, r⟩ := h2
  exact ⟨o, seqI h e, r⟩
theorem run_mseq {x y : MS} {ρ : Ro} {R : Out → Prop} (h : Run x ρ (afterR y R)) : Run (mseq x y) ρ R := by
  obtain ⟨o, e, r⟩ := h
  cases o with
  | nx ρ' => exact run_seq e r
  | bk ρ' => exact ⟨_, seq_after e, r⟩
  | ct ρ' => exact ⟨_, seq_after e, r⟩
  | rt d => exact ⟨_, seq_after e, r⟩
  | rf d => exact ⟨_, seq_after e, r⟩
  | rp d es => exact ⟨_, seq_after e, r⟩
  | rg d p' r' => exact ⟨_, seq_after e, r⟩
  | rgf d p' r' => exact ⟨_, seq_after e, r⟩
theorem run_for {α : Type} {mi : ML} {g : Tg} {body : MS} {ρ : Ro} {f : α → D} (ds : List α) (hi : mi ρ = some (ds.map f)) (I : List α → Ro → Prop) (Q : Out → Prop) (h0 : I ds ρ)
    (hs : ∀ d ds ρ, I (d :: ds) ρ → ∃ ρ1, tgD g (f d) ρ = some ρ1 ∧ Run body ρ1 (stepO I Q ds)) (hd : ∀ ρ, I [] ρ → Q (.nx ρ)) : Run (mfor mi g body) ρ Q := by
  obtain ⟨o, e, q⟩ := forD_post (g := g) (body := body) I Q (fun d ds ρ h => by obtain ⟨ρ1, a, o, b, c⟩ := hs d ds ρ h; exact ⟨ρ1, o, a, b, c⟩) hd ds ρ h0
  exact ⟨o, by unfold mfor; rw [hi]; exact e, q⟩
theorem run_forN {mi : ML} {g : Tg} {body : MS} {ρ : Ro} {f : Nat → D} (n : Nat) (hi : mi ρ = some ((List.range n).map f)) (I : Nat → Ro → Prop) (Q : Out → Prop) (h0 : I 0 ρ)
    (hs : ∀ j ρ, j < n → I j ρ → ∃ ρ1, tgD g (f j) ρ = some ρ1 ∧ Run body ρ1 (stepO (fun (_ : List Unit) ρ => I (j + 1) ρ) Q [])) (hd : ∀ ρ, I n ρ → Q (.nx ρ)) : Run (mfor mi g body) ρ Q := by
  refine run_for (List.range n) hi (I := fun ks ρ => ∃ j, j ≤ n ∧ ks = List.range' j (n - j) ∧ I j ρ) (Q := Q) ⟨0, by omega, by rw [List.range_eq_range']; rfl, h0⟩ ?_ ?_
  · rintro d ds ρ ⟨j, hj, e, h⟩
    have hlt : j < n := by
      rcases Nat.lt_or_ge j n with z | z
      · exact z
      · rw [show n - j = 0 by omega] at e; cases e
    rw [range_cons j n hlt] at e
    obtain ⟨e1, e2⟩ := List.cons.inj e
    subst e1
    obtain ⟨ρ1, a1, o, a2, a3⟩ := hs d ρ hlt h
    refine ⟨ρ1, a1, o, a2, ?_⟩
    cases o with
    | nx r => exact ⟨d + 1, by omega, e2, a3⟩
    | ct r => exact ⟨d + 1, by omega, e2, a3⟩
    | bk r => exact a3
    | rt r => exact a3
    | rf r => exact a3
    | rp r r2 => exact a3
    | rg r r2 r3 => exact a3
    | rgf r r2 r3 => exact a3
  · rintro ρ ⟨j, hj, e, h⟩
    have : n - j = 0 := by
      rcases Nat.eq_zero_or_pos (n - j) with z | z
      · exact z
      · rw [range_cons j n (by omega)] at e; cases e
    have : j = n := by omega
    subst this
    exact hd ρ h
theorem run_freeze {i : Nat} {m : MS} {ρ : Ro} {ds : List D} {R : Out → Prop} (h : ρ[i]? = some (some (.own ds))) (h2 : Run m (ρ.set i (some (.sh (.lst ds)))) R) : Run (mfreeze i m) ρ R := by
  obtain ⟨o, e, r⟩ := h2
  exact ⟨o, by unfold mfreeze; rw [h]; exact e, r⟩
theorem run_if {c : MB} {x y : MS} {ρ : Ro} {R : Out → Prop} {b : Bool} (h : c ρ = some b) (h2 : Run (if b then x else y) ρ R) : Run (mif c x y) ρ R := by
  obtain ⟨o, e, r⟩ := h2
  refine ⟨o, ?_, r⟩
  unfold mif; rw [h]
  cases b <;> exact e
theorem run_next {ρ : Ro} {R : Out → Prop} (h : R (.nx ρ)) : Run mnext ρ R := ⟨_, rfl, h⟩
theorem nat_of {x : Int} (h : 0 ≤ x) : ∃ n : Nat, x = n := ⟨x.toNat, by omega⟩
theorem mand_bl {x y : ME} {ρ : Ro} {a b : Bool} (h1 : x ρ = some (.bl a)) (h2 : y ρ = some (.bl b)) : mand x y ρ = some (.bl (a && b)) := by
  unfold mand; rw [h1]; cases a <;> simp [h2]
theorem rangeD_map (lo : Int) (n : Nat) : rangeD lo n = (List.range n).map fun (i : Nat) => D.int (lo + (i : Int)) := rfl
theorem rangeD_li (n : Nat) : rangeD 0 n = ((List.range n).map fun (i : Nat) => (i : Int)).map .int := by
  rw [rangeD_map, List.map_map]
  apply List.map_congr_left
  intro i _
  simp
theorem okR_of {j : Int} (h1 : -(2 ^ 62) ≤ j) (h2 : j < 2 ^ 62) : okR j = true := by unfold okR; simp only [h1, h2, decide_true, Bool.and_self]
theorem rng1_ok {j : Int} (h : okR j = true) : rng1 [.int j] = some (rangeD 0 j.toNat) := by
  unfold rng1
  simp only [h, if_true]
theorem rng2_ok {i j : Int} (h : okR i = true) (h2 : okR j = true) : rng2 [.int i, .int j] = some (rangeD i (j - i).toNat) := by
  unfold rng2
  simp only [h, h2, Bool.and_self, if_true]
end

section
open PySem L2
theorem runB_rfR {n : Nat} {m : MS} {ds : List D} {P : List D → Prop} (h : Run m (startS n ds) (fun o => ∃ es, o = .rf es ∧ P es)) : ∃ es, runB n m ds = some (.fr es) ∧ P es := by
  obtain ⟨o, e, es, rfl, p⟩ := h
  exact ⟨es, runB_rf e, p⟩
theorem run_retO {i : Nat} {ρ : Ro} {ds : List D} {R : Out → Prop} (h : ρ[i]? = some (some (.own ds))) (h2 : R (.rf ds)) : Run (mretO i) ρ R := ⟨_, by unfold mretO; rw [h], h2⟩
theorem fdivOk_of (i j : Int) (h : 0 < j) (h2 : j < 1073741824) : fdivOk i j = true := by unfold fdivOk; simp only [h, h2, decide_true, Bool.and_self]
theorem shrOk_of (i j : Int) (h : 0 ≤ j) : shrOk i j = true := by unfold shrOk; simp only [h, decide_true]
theorem at4 (a b c d : Int) (k : Int) (h0 : 0 ≤ k) (h1 : k < 4) : ∃ x, atI [D.int a, .int b, .int c, .int d] k = some (.int x) ∧ (x = a ∨ x = b ∨ x = c ∨ x = d) := by
  have : k = 0 ∨ k = 1 ∨ k = 2 ∨ k = 3 := by omega
  rcases this with h | h | h | h <;> subst h
  · exact ⟨_, rfl, by simp⟩
  · exact ⟨_, rfl, by simp⟩
  · exact ⟨_, rfl, by simp⟩
  · exact ⟨_, rfl, by simp⟩
theorem at8 (a b c d e f g h : Int) (k : Int) (h0 : 0 ≤ k) (h1 : k < 8) : ∃ x, atI [D.int a, .int b, .int c, .int d, .int e, .int f, .int g, .int h] k = some (.int x) := by
  have : k = 0 ∨ k = 1 ∨ k = 2 ∨ k = 3 ∨ k = 4 ∨ k = 5 ∨ k = 6 ∨ k = 7 := by omega
  rcases this with h | h | h | h | h | h | h | h <;> subst h <;> exact ⟨_, rfl⟩
theorem at2 (a b : Int) (k : Int) (h0 : 0 ≤ k) (h1 : k < 2) : ∃ x, atI [D.int a, .int b] k = some (.int x) := by
  have : k = 0 ∨ k = 1 := by omega
  rcases this with h | h <;> subst h <;> exact ⟨_, rfl⟩
noncomputable def envR (c most size kind wide block : Int) (f : List Int) (last : Int) (o8 o9 o10 : Option S) : Ro := [some (.sh (.int c)), some (.sh (.int most)), some (.sh (.int size)), some (.sh (.int kind)), some (.sh (.int wide)), some (.sh (.int block)), some (.own (f.map .int)), some (.sh (.int last)), o8, o9, o10]
theorem row_body (c most size kind wide block : Int) (f : List Int) (last : Int) (j : Nat) (o9 o10 : Option S) (hk0 : 0 ≤ kind) (hk8 : kind < 8) (hw : 0 < wide) (hw6 : wide ≤ 1000000) (hb : 0 < block) (hb9 : block ≤ 9) (hf : f.length < 1000000) (Q : Out → Prop)
    (hQ : ∀ x last o8 o9 o10, Q (.nx (envR c most size kind wide block (f ++ [x]) last o8 o9 o10))) : Run b_law_row_f0 (envR c most size kind wide block f last (some (.sh (.int (j : Int)))) o9 o10) Q := by
  have s1 := stir_eq c (10 + (j : Int)) (by omega)
  have b1 := mod_cases (x := stir c (10 + (j : Int))) hw
  obtain ⟨one, eo⟩ : ∃ k, stir c (10 + (j : Int)) % wide = k := ⟨_, rfl⟩
  rw [eo] at b1
  have p23 : (10 : Int) ^ (23 : Int).toNat = 100000000000000000000000 := by decide
  have o23 : powOk 10 23 = true := by decide
  have i1 : 0 + 1 ≤ sizeLine := le_size (by decide)
  have i2 : 0 + 1 + 1 ≤ sizeLine := le_size (by decide)
  have i3 : 0 + 1 + 1 + 1 ≤ sizeLine := le_size (by decide)
  have i4 : 0 + 1 + 1 + 1 + 1 ≤ sizeLine := le_size (by decide)
  have i7 : 0 + 1 + 1 + 1 + 1 + (0 + 1 + 1 + 1) ≤ sizeLine := le_size (by decide)
  have i8 : 0 + 1 + 1 + 1 + 1 + 1 + 1 + 1 + (0 + 1) ≤ sizeLine := le_size (by decide)
  have d2 : ∀ i, fdivOk i 2 = true := fun i => fdivOk_of _ _ (by decide) (by decide)
  have m2k := mod_cases (x := (j : Int)) (show (0 : Int) < 2 by decide)
  obtain ⟨x2, e2⟩ := at2 one (0 - one) ((j : Int) % 2) m2k.1 m2k.2
  have mb := mod_cases (x := (j : Int) / block) (show (0 : Int) < 2 by decide)
  have mu1 : mulOk ((j : Int) / block % 2) wide = true := mulOk_l _ _ (by omega) (by omega)
  have mu2 : mulOk (one - wide / 2) 100000000000000000000000 = true := mulOk_l _ _ (by omega) (by omega)
  unfold b_law_row_f0 envR
  ((apply run_seq; focus (simp_arith [s1, modOk_of (stir c (10 + (j : Int))) wide hw, if_true, eo]; rfl)))
  ((apply run_seq; focus (simp_arith [d2, if_true]; rfl)))
  ((apply run_seq; focus (simp_arith [d2, if_true, i4, i2, modOk_of (j : Int) 2 (by decide), e2]; rfl)))
  ((apply run_seq; focus (simp_arith [d2, if_true, i3, i7, fdivOk_of (j : Int) block hb (by omega), modOk_of ((j : Int) / block) 2 (by decide), mu1, mu2, p23, o23, s1, modOk_of (stir c (10 + (j : Int))) 3 (by decide)]; rfl)))
  obtain ⟨x8, e8⟩ := at8 (one - wide / 2) ((j : Int) + one / 2) (0 - (j : Int) - one / 2) x2 (one + (j : Int) / block % 2 * wide) wide ((one - wide / 2) * 100000000000000000000000 + stir c (10 + (j : Int)) % 3) (last + one - wide / 2) kind hk0 hk8
  have hl : (f.map D.int).length < sizeLine := by simp; have := size_big; omega
  refine ⟨_, by simp_arith [i1, i8, if_true, e8, hl]; rfl, ?_⟩
  have := fun a b d => hQ x8 (last + one - wide / 2) a b d
  unfold envR at this
  simp only [List.map_append] at this
  exact this _ _ _
theorem row_eq (c : Int) (most : Nat) (hm : most ≤ 300) : ∃ f : List Int, f.length ≤ most ∧ m_law_row [.int c, .int most] = some (.fr (f.map .int)) := by
  suffices h : ∃ es, m_law_row [.int c, .int most] = some (.fr es) ∧ ∃ f : List Int, f.length ≤ most ∧ es = f.map .int by
    obtain ⟨es, e, f, hf, rfl⟩ := h
    exact ⟨f, hf, e⟩
  unfold m_law_row b_law_row
  refine runB_rfR ?_
  have i4 : 0 + 1 + 1 + 1 + 1 ≤ sizeLine := le_size (by decide)
  have i0 : 0 ≤ sizeLine := Nat.zero_le _
  have p6 : (10 : Int) ^ (6 : Int).toNat = 1000000 := by decide
  have o6 : powOk 10 6 = true := by decide
  have b1 := mod_cases (x := stir c 1) (show (0 : Int) < 4 by decide)
  have b2 := mod_cases (x := stir c 2) (show (0 : Int) < 8 by decide)
  have b3 := mod_cases (x := stir c 3) (show (0 : Int) < 4 by decide)
  have b4 := mod_cases (x := stir c 4) (show (0 : Int) < 9 by decide)
  obtain ⟨sz, e1, hs1⟩ := at4 4 13 41 ((most : Int) + 1) (stir c 1 % 4) b1.1 b1.2
  have hsz : 0 < sz := by omega
  have b0 := mod_cases (x := stir c 0) hsz
  ((apply run_seq; focus (simp_arith [stir_eq c 0 (by decide), stir_eq c 1 (by decide), i4, if_true, modOk_of (stir c 1) 4 (by decide), e1, modOk_of (stir c 0) sz hsz]; rfl)))
  ((apply run_seq; focus (simp_arith [stir_eq c 2 (by decide), if_true, modOk_of (stir c 2) 8 (by decide)]; rfl)))
  obtain ⟨wide, e3, hw⟩ := at4 2 5 50 1000000 (stir c 3 % 4) b3.1 b3.2
  ((apply run_seq; focus (simp_arith [stir_eq c 3 (by decide), i4, if_true, modOk_of (stir c 3) 4 (by decide), p6, o6, e3]; rfl)))
  ((apply run_seq; focus (simp_arith [stir_eq c 4 (by decide), if_true, modOk_of (stir c 4) 9 (by decide)]; rfl)))
  ((apply run_seq; focus (simp_arith [i0, if_true]; rfl)))
  ((apply run_seq; focus (simp_arith []; rfl)))
  obtain ⟨n, en⟩ := nat_of (x := min (stir c 0 % sz) (most : Int)) (by omega)
  have hn : n ≤ 300 := by omega
  have hn2 : n ≤ most := by omega
  have k1 : okR (n : Int) = true := okR_of (by omega) (by omega)
  refine run_mseq (run_forN n (f := fun (j : Nat) => D.int (j : Int)) (by simp_arith [min_if, en, rng1_ok k1, Int.toNat_natCast]; rw [rangeD_li, List.map_map]; rfl)
    (I := fun j ρ => ∃ f last o8 o9 o10, f.length = j ∧ ρ = envR c most (stir c 0 % sz) (stir c 2 % 8) wide (1 + stir c 4 % 9) f last o8 o9 o10) _ ⟨[], _, _, _, _, rfl, rfl⟩ ?_ ?_)
  · rintro j ρ hj ⟨f, last, o8, o9, o10, hf, rfl⟩
    refine ⟨_, rfl, row_body c most (stir c 0 % sz) (stir c 2 % 8) wide (1 + stir c 4 % 9) f last j o9 o10 b2.1 b2.2 (by omega) (by omega) (by omega) (by omega) (by omega) _ fun x last o8 o9 o10 => ⟨f ++ [x], last, o8, o9, o10, by simp [hf], rfl⟩⟩
  · rintro ρ ⟨f, last, o8, o9, o10, hf, rfl⟩
    exact run_retO rfl ⟨_, rfl, f, by omega, rfl⟩
theorem far_eq (c k : Int) (hk : 0 ≤ k) : ∃ x : Int, 0 ≤ x ∧ m_law_far [.int c, .int k] = some (.sh (.int x)) := by
  unfold m_law_far b_law_far
  have i4 : 0 + 1 + 1 + 1 + 1 ≤ sizeLine := le_size (by decide)
  have p29 : (10 : Int) ^ (29 : Int).toNat = 100000000000000000000000000000 := by decide
  have o29 : powOk 10 29 = true := by decide
  have b1 := mod_cases (x := stir c k) (show (0 : Int) < 4 by decide)
  have b2 := mod_cases (x := stir c (k + 1)) (show (0 : Int) < 1000 by decide)
  obtain ⟨x, e, hx⟩ := at4 0 1 (stir c (k + 1) % 1000) 100000000000000000000000000000 (stir c k % 4) b1.1 b1.2
  refine ⟨x, by omega, runB_rt ?_⟩
  simp_arith [stir_eq c k hk, stir_eq c (k + 1) (by omega), i4, if_true, p29, o29, modOk_of (stir c (k + 1)) 1000 (by decide), modOk_of (stir c k) 4 (by decide), e]
end

section
open PySem L2
theorem enumL_map : ∀ (row : List Int) (k : Nat), enumL k (row.map .int) = (List.range row.length).map fun (i : Nat) => D.tup [.int ((k + i : Nat) : Int), .int (row.getD i 0)]
  | [], k => rfl
  | x :: row, k => by
    rw [List.map_cons, enumL, enumL_map row (k + 1), List.length_cons, List.range_succ_eq_map, List.map_cons, List.map_map]
    congr 1
    apply List.map_congr_left
    intro i _
    simp only [Function.comp, Nat.succ_eq_add_one, List.getD_cons_succ]
    rw [show k + 1 + i = k + (i + 1) by omega]
theorem eq_nilF (ds : List D) : eqFD false (.lst ds) (.lst []) = some (.bl ds.isEmpty) := by
  unfold eqFD eqF
  cases ds with
  | nil => rfl
  | cons d ds => rfl
theorem eq_nilT (ds : List D) : eqFD true (.lst ds) (.lst []) = some (.bl (!ds.isEmpty)) := by
  unfold eqFD eqF
  cases ds with
  | nil => rfl
  | cons d ds => rfl
theorem eqS_way (w : Option Bool) (b : Bool) : ∃ t, eqS (wD w) (.bl b) = some t := by
  cases w with
  | none => exact ⟨false, rfl⟩
  | some i => exact ⟨i == b, rfl⟩
noncomputable def envT (c k : Int) (row : List Int) (step : Int) (f : List Int) (w : Option Bool) (o6 o7 o8 o9 : Option S) : Ro := [some (.sh (.int c)), some (.sh (.int k)), some (.sh (.lst (row.map .int))), some (.sh (.int step)), some (.own (f.map .int)), some (.sh (wD w)), o6, o7, o8, o9]
theorem by_turns_eq (c k : Int) (row : List Int) (step : Int) (hk : 0 ≤ k) (hn : row.length ≤ 300) : ∃ f : List Int, f.length ≤ row.length ∧ m_law_by_turns [.int c, .int k, .lst (row.map .int), .int step] = some (.fr (f.map .int)) := by
  suffices h : ∃ es, m_law_by_turns [.int c, .int k, .lst (row.map .int), .int step] = some (.fr es) ∧ ∃ f : List Int, f.length ≤ row.length ∧ es = f.map .int by
    obtain ⟨es, e, f, hf, rfl⟩ := h
    exact ⟨f, hf, e⟩
  unfold m_law_by_turns b_law_by_turns
  refine runB_rfR ?_
  have i0 : 0 ≤ sizeLine := Nat.zero_le _
  ((apply run_seq; focus (simp_arith [i0, if_true]; rfl)))
  ((apply run_seq; focus (simp_arith []; rfl)))
  refine run_mseq (run_forN row.length (f := fun (i : Nat) => D.tup [.int ((0 + i : Nat) : Int), .int (row.getD i 0)]) (by simp_arith [enumL_map])
    (I := fun j ρ => ∃ (f : List Int) (w : Option Bool) (o6 o7 o8 o9 : Option S), f.length ≤ j ∧ (∀ p ∈ f, 0 ≤ p ∧ p < row.length) ∧ ρ = envT c k row step f w o6 o7 o8 o9) _ ⟨[], none, _, _, _, _, Nat.le_refl _, by simp, rfl⟩ ?_ ?_)
  · rintro j ρ hj ⟨f, w, o6, o7, o8, o9, hf, hp, rfl⟩
    rw [show 0 + j = j by omega]
    refine ⟨_, rfl, ?_⟩
    unfold b_law_by_turns_f0
    have m28 := mod_cases (x := (j : Int)) (show (0 : Int) < 28 by decide)
    have d28 : 0 ≤ (j : Int) / 28 := Int.ediv_nonneg (by omega) (by decide)
    have s1 := stir_eq c (k + (j : Int) / 28) (by omega)
    have l1 : (f.map D.int).length < sizeLine := by simp; have := size_big; omega
    obtain ⟨passed, hpass⟩ : ∃ b, mand (m2 eqSD (m2 andD (m2 shrD (mcall m_law_stir (acons (mvar 0) (acons (m2 addD (mvar 1) (m2 fdivD (mvar 6) (mc (.int 28)))) anil))) (m2 modD (mvar 6) (mc (.int 28)))) (mc (.int 1))) (mc (.int 1))) (m2 gtD (m2 modD (mvar 6) (mc (.int 3))) (mc (.int 0)))
        (envT c k row step f w (some (.sh (.int (j : Int)))) (some (.sh (.int (row.getD j 0)))) o8 o9) = some (.bl b) :=
      ⟨_, mand_bl (by unfold envT; simp_arith [s1, fdivOk_of (j : Int) 28 (by decide) (by decide), modOk_of (j : Int) 28 (by decide), if_true, shrOk_of (stir c (k + (j : Int) / 28)) ((j : Int) % 28) m28.1]; rfl) (by unfold envT; simp_arith [modOk_of (j : Int) 3 (by decide), if_true]; rfl)⟩
    refine run_seq (ρ' := envT c k row step f w (some (.sh (.int (j : Int)))) (some (.sh (.int (row.getD j 0)))) (some (.sh (.bl passed))) o9) (by unfold mset; show Option.map _ (mand _ _ (envT c k row step f w (some (.sh (.int (j : Int)))) (some (.sh (.int (row.getD j 0)))) o8 o9)) = _; rw [hpass]; rfl) ?_
    have keep : Run mnext (envT c k row step f w (some (.sh (.int (j : Int)))) (some (.sh (.int (row.getD j 0)))) (some (.sh (.bl passed))) o9) (stepO (fun (_ : List Unit) ρ => ∃ (f : List Int) (w : Option Bool) (o6 o7 o8 o9 : Option S), f.length ≤ j + 1 ∧ (∀ p ∈ f, 0 ≤ p ∧ p < row.length) ∧ ρ = envT c k row step f w o6 o7 o8 o9) (afterR (mretO 4) fun o => ∃ es, o = .rf es ∧ ∃ f : List Int, f.length ≤ row.length ∧ es = f.map .int) []) :=
      run_next ⟨f, w, _, _, _, _, by omega, hp, rfl⟩
    have add : ∀ (w' : Option Bool) (o6 o7 o8 o9 : Option S), stepO (fun (_ : List Unit) ρ => ∃ (f : List Int) (w : Option Bool) (o6 o7 o8 o9 : Option S), f.length ≤ j + 1 ∧ (∀ p ∈ f, 0 ≤ p ∧ p < row.length) ∧ ρ = envT c k row step f w o6 o7 o8 o9) (afterR (mretO 4) fun o => ∃ es, o = .rf es ∧ ∃ f : List Int, f.length ≤ row.length ∧ es = f.map .int) []
        (.nx (envT c k row step (f ++ [(j : Int)]) w' o6 o7 o8 o9)) := fun w' o6 o7 o8 o9 => ⟨_, w', o6, o7, o8, o9, by simp; omega, by
          intro p hp'
          rcases List.mem_append.mp hp' with h | h
          · exact hp p h
          · rw [List.mem_singleton] at h; subst h; omega, rfl⟩
    unfold envT at add
    simp only [List.map_append, List.map_cons, List.map_nil] at add
    refine run_if (b := (f.map D.int).isEmpty && !passed) ?_ ?_
    · unfold envT
      cases hE : (f.map D.int).isEmpty <;> simp_arith [eq_nilF, i0, if_true, hE] <;> cases passed <;> rfl
    · cases f with
      | nil =>
        cases passed with
        | false =>
          show Run (mapp 4 (mvar 6)) _ _
          unfold envT
          rw [List.map_nil, List.length_nil] at l1
          refine ⟨_, by simp_arith [l1, if_true]; rfl, ?_⟩
          exact add _ _ _ _ _
        | true =>
          show Run (mif _ _ mnext) _ _
          refine run_if (b := false) ?_ keep
          unfold envT
          simp_arith [eq_nilT, i0, if_true]
      | cons p0 f0 =>
        show Run (mif _ _ mnext) _ _
        refine run_if (b := !passed) ?_ ?_
        · unfold envT
          simp_arith [eq_nilT, i0, if_true]
        · cases passed with
          | true => exact keep
          | false =>
            show Run (mseq _ _) _ _
            obtain ⟨fi, pl, efl⟩ : ∃ fi pl, p0 :: f0 = fi ++ [pl] := ⟨_, _, (List.dropLast_concat_getLast (List.cons_ne_nil p0 f0)).symm⟩
            have hpl := hp pl (by rw [efl]; simp)
            have a1 : atI ((p0 :: f0).map D.int) (-1) = some (.int pl) := by rw [efl]; exact atI_last D.int fi pl
            have a2 := atI_map D.int row pl hpl.1 hpl.2 0
            rw [List.map_cons] at a1
            unfold envT
            ((apply run_seq; focus (simp_arith [a1, a2]; rfl)))
            obtain ⟨far, efar⟩ : ∃ x, row.getD j 0 - row.getD pl.toNat 0 = x := ⟨_, rfl⟩
            rw [efar]
            obtain ⟨t, et⟩ := eqS_way w (decide (0 < far))
            by_cases hst : step ≤ (far.natAbs : Int)
            · cases t with
              | true =>
                refine run_if (b := false) (by simp_arith [abs_if, hst, decide_true, et]) ?_
                exact run_next ⟨p0 :: f0, w, _, _, _, _, by omega, hp, rfl⟩
              | false =>
                refine run_if (b := true) (by simp_arith [abs_if, hst, decide_true, et]) ?_
                show Run (mseq _ _) _ _
                ((apply run_seq; focus (simp_arith []; rfl)))
                rw [List.map_cons, List.length_cons] at l1
                refine ⟨_, by simp_arith [l1, if_true]; rfl, ?_⟩
                have := fun a b d e => add (some (decide (0 < far))) a b d e
                rw [List.map_cons, List.cons_append] at this
                exact this _ _ _ _
            · refine run_if (b := false) (by simp_arith [abs_if, hst, decide_false]) ?_
              exact run_next ⟨p0 :: f0, w, _, _, _, _, by omega, hp, rfl⟩
  · rintro ρ ⟨f, w, o6, o7, o8, o9, hf, hp, rfl⟩
    exact run_retO rfl ⟨_, rfl, f, hf, rfl⟩
end

section
open PySem L2
theorem zipE_int (n : Nat) : ∀ xs : List Int, zipE (eqF (n + 1)) (xs.map .int) (xs.map .int) = some true
  | [] => rfl
  | x :: xs => by
    rw [List.map_cons, zipE, zipE_int n xs]
    show (some (x == x)).bind _ = _
    rw [beq_self_eq_true]; rfl
theorem eqF_li (n : Nat) (xs : List Int) : eqF (n + 2) (.lst (xs.map .int)) (.lst (xs.map .int)) = some true := by
  show (if _ = _ then zipE (eqF (n + 1)) (xs.map .int) (xs.map .int) else some false) = _
  rw [if_pos rfl, zipE_int]
theorem eq_pair (xs ys : List Int) : eqFD true (.lst [.lst (xs.map .int), .lst (ys.map .int)]) (.lst [.lst (xs.map .int), .lst (ys.map .int)]) = some (.bl false) := by
  have : eqF 8 (.lst [.lst (xs.map .int), .lst (ys.map .int)]) (.lst [.lst (xs.map .int), .lst (ys.map .int)]) = some true := by
    show (if _ = _ then zipE (eqF 7) [.lst (xs.map .int), .lst (ys.map .int)] [.lst (xs.map .int), .lst (ys.map .int)] else some false) = _
    rw [if_pos rfl]
    simp only [zipE, eqF_li 5, Option.bind_some, Bool.and_self]
  unfold eqFD
  rw [this]; rfl
end

section
open PySem L2
noncomputable def gn (up : Bool) (x b : Int) : Int := if up then x - b else b - x
noncomputable def okP (up : Bool) (s : Int) : Int → List Int → Bool
  | _, [] => true
  | b, x :: r => if gn up x b ≤ -s then false else okP up s (if 0 < gn up x b then x else b) r
noncomputable def fb (up : Bool) (s : Int) : Int → List Int → Nat
  | _, [] => 0
  | b, x :: r => if gn up x b ≤ -s then 0 else fb up s (if 0 < gn up x b then x else b) r + 1
noncomputable def pr (up : Bool) (s : Int) : List Int → Bool
  | [] => true
  | x :: r => okP up s x r
noncomputable def fbs (up : Bool) (s : Int) : List Int → Nat
  | [] => 0
  | x :: r => fb up s x (x :: r)
theorem gn_self (up : Bool) (x : Int) : gn up x x = 0 := by unfold gn; split <;> omega
theorem fb_self (up : Bool) (s x : Int) (r : List Int) (hs : 1 ≤ s) : fb up s x (x :: r) = fb up s x r + 1 := by
  rw [fb, gn_self, if_neg (by omega), if_neg (by omega)]
theorem fb_lt (up : Bool) (s : Int) : ∀ (r : List Int) (b : Int) (k : Nat), k ≤ r.length → (decide (fb up s b r < k) = !okP up s b (r.take k))
  | r, b, 0, _ => by simp [okP]
  | [], b, k + 1, h => by simp at h
  | x :: r, b, k + 1, h => by
    rw [fb, List.take_succ_cons, okP]
    split
    · simp
    · rw [← fb_lt up s r _ k (by simpa using h)]
      simp
theorem fbs_lt (up : Bool) (s : Int) (hs : 1 ≤ s) (xs : List Int) (k : Nat) (h : k ≤ xs.length) : decide (fbs up s xs < k) = !pr up s (xs.take k) := by
  cases xs with
  | nil => simp at h; subst h; rfl
  | cons x r =>
    cases k with
    | zero => simp [pr]
    | succ k =>
      rw [List.take_succ_cons, pr, fbs, fb_self up s x r hs, ← fb_lt up s r x k (by simpa using h)]
      simp
noncomputable def rel (up : Bool) (s a c : Int) : Prop := -(gn up c a) < s
noncomputable def seg (row : List Int) (p : Nat × Nat) : List Int := (row.take p.2).drop p.1
noncomputable def prs (n : Nat) : Nat → List Nat → List (Nat × Nat)
  | st, [] => [(st, n)]
  | st, c :: cs => (st, c) :: prs n c cs
noncomputable def rise (n : Nat) : Nat → List Nat → Prop
  | _, [] => True
  | l, c :: cs => l < c ∧ c < n ∧ rise n c cs
noncomputable def alt (s : Int) (row : List Int) : Bool → Nat → List Nat → Bool
  | up, st, [] => pr up s (seg row (st, row.length))
  | up, st, c :: cs => pr up s (seg row (st, c)) && alt s row (!up) c cs
theorem seg_lt (up : Bool) (s : Int) (hs : 1 ≤ s) (row : List Int) (st e : Nat) (h1 : st ≤ e) (h2 : e ≤ row.length) : decide (((st + fbs up s (row.drop st) : Nat) : Int) < (e : Int)) = !pr up s (seg row (st, e)) := by
  unfold seg
  rw [List.drop_take, ← fbs_lt up s hs (row.drop st) (e - st) (by simp; omega)]
  apply decide_eq_decide.mpr
  omega
theorem pok_rise (n : Nat) : ∀ (ps : List Int) (k : Nat), pok n ((k : Int) + 1) ps = true ↔ ∃ cs : List Nat, ps = cs.map (fun (c : Nat) => (c : Int)) ∧ rise n k cs
  | [], k => by
    refine ⟨fun _ => ⟨[], rfl, True.intro⟩, fun _ => rfl⟩
  | p :: ps, k => by
    rw [pok]
    constructor
    · intro h
      split at h
      · cases h
      · rename_i hp
        obtain ⟨m, hm⟩ := nat_of (x := p) (by omega)
        subst hm
        obtain ⟨cs, e, r⟩ := (pok_rise n ps m).mp h
        exact ⟨m :: cs, by rw [List.map_cons, e], by omega, by omega, r⟩
    · rintro ⟨cs, e, r⟩
      cases cs with
      | nil => cases e
      | cons c cs =>
        rw [List.map_cons] at e
        obtain ⟨e1, e2⟩ := List.cons.inj e
        subst e1
        obtain ⟨r1, r2, r3⟩ := r
        rw [if_neg (by omega)]
        exact (pok_rise n ps c).mpr ⟨cs, e2, r3⟩
theorem pok_zero (n : Nat) (ps : List Int) : (pok n 0 ps = true ∧ (0 : Int) ∉ ps) ↔ pok n 1 ps = true := by
  cases ps with
  | nil => simp [pok]
  | cons p ps =>
    rw [pok, pok]
    constructor
    · rintro ⟨h, h0⟩
      split at h
      · cases h
      · rename_i hp
        have : p ≠ 0 := fun z => h0 (by simp [z])
        rw [if_neg (by omega)]; exact h
    · intro h
      split at h
      · cases h
      · rename_i hp
        rw [if_neg (by omega)]
        refine ⟨h, fun z0 => ?_⟩
        rcases List.mem_cons.mp z0 with z | z
        · omega
        · obtain ⟨m, hm⟩ := nat_of (x := p) (by omega)
          subst hm
          obtain ⟨cs, e, r⟩ := (pok_rise n ps m).mp h
          rw [e] at z
          obtain ⟨c, hc, ec⟩ := List.mem_map.mp z
          have : ∀ (cs : List Nat) (l : Nat), rise n l cs → ∀ c ∈ cs, l < c := by
            intro cs
            induction cs with
            | nil => intro l _ c hc; cases hc
            | cons d cs ih =>
              intro l hr c hc
              rcases List.mem_cons.mp hc with w | w
              · subst w; exact hr.1
              · exact Nat.lt_trans hr.1 (ih d hr.2.2 c w)
          have := this cs m r c hc
          omega
theorem cuts_ok (n : Nat) (ps : List Int) : (pok n 0 ps && !(ps.any fun y => y == 0)) = true ↔ ∃ cs : List Nat, ps = cs.map (fun (c : Nat) => (c : Int)) ∧ rise n 0 cs := by
  have e := pok_rise n ps 0
  rw [show ((0 : Nat) : Int) + 1 = 1 by rfl] at e
  rw [← e, ← pok_zero]
  simp
  intro _
  constructor
  · intro h z; exact h 0 z rfl
  · intro h x hx z; subst z; exact h hx
end

section
open PySem L2
theorem runB_run {n : Nat} {m : MS} {ds : List D} {d : D} (h : Run m (startS n ds) (fun o => o = .rt d)) : runB n m ds = some (.sh d) := by
  obtain ⟨o, e, rfl⟩ := h
  exact runB_rt e
theorem mcall_fr {f : MF} {m : ML} {ρ : Ro} {ds es : List D} (h : m ρ = some ds) (h2 : f ds = some (.fr es)) : mcall f m ρ = some (.lst es) := by
  unfold mcall; rw [h]; show (match f ds with | some (.sh d) => some d | some (.fr es) => some (D.lst es) | some (.pr d es) => some (.tup [d, .lst es]) | none => none) = _; rw [h2]
theorem mcall_sh {f : MF} {m : ML} {ρ : Ro} {ds : List D} {d : D} (h : m ρ = some ds) (h2 : f ds = some (.sh d)) : mcall f m ρ = some d := by
  unfold mcall; rw [h]; show (match f ds with | some (.sh d) => some d | some (.fr es) => some (D.lst es) | some (.pr d es) => some (.tup [d, .lst es]) | none => none) = _; rw [h2]
theorem acons_ev {x : ME} {r : ML} {ρ : Ro} {d : D} {ds : List D} (h : x ρ = some d) (h2 : r ρ = some ds) : acons x r ρ = some (d :: ds) := by
  unfold acons; rw [h, h2]; rfl
theorem anil_ev {ρ : Ro} : anil ρ = some [] := rfl
noncomputable def kd (up : Bool) : Str := if up then "up" else "down"
theorem ud : (("up" : Str) == ("down" : Str)) = false := by decide
theorem dd : (("down" : Str) == ("down" : Str)) = true := by decide
theorem at_nat (row : List Int) (i : Nat) (h : i < row.length) : atI (row.map D.int) (i : Int) = some (.int (row.getD i 0)) := by
  have := atI_map D.int row (i : Int) (by omega) (by omega) 0
  rw [Int.toNat_natCast] at this
  exact this
theorem drop_getD (row : List Int) (i : Nat) (h : i < row.length) : row.drop i = row.getD i 0 :: row.drop (i + 1) := by
  rw [List.drop_eq_getElem_cons h]
  simp [h]
theorem fbs_drop (up : Bool) (s : Int) (row : List Int) (st : Nat) : fbs up s (row.drop st) = fb up s (row.getD st 0) (row.drop st) := by
  by_cases h : st < row.length
  · rw [drop_getD row st h]; rfl
  · rw [List.drop_eq_nil_of_le (by omega)]; rfl
noncomputable def envB (row : List Int) (s : Int) (up : Bool) (st e : Nat) (o5 o6 : Option S) : Ro := [some (.sh (.lst (row.map .int))), some (.sh (.int s)), some (.sh (.str (kd up))), some (.sh (.int (st : Int))), some (.sh (.int (e : Int))), o5, o6]
theorem first_break_eq (row : List Int) (s : Int) (up : Bool) (st : Nat) (hst : st ≤ row.length) (hr : row.length ≤ 1000) :
    m_first_break [.lst (row.map .int), .int s, .str (kd up), .int (st : Int)] = some (.sh (.int ((st + fbs up s (row.drop st) : Nat) : Int))) := by
  unfold m_first_break b_first_break
  refine runB_run ?_
  ((apply run_seq; focus (simp_arith []; rfl)))
  have k1 : okR (st : Int) = true := okR_of (by omega) (by omega)
  have k2 : okR (row.length : Int) = true := okR_of (by omega) (by omega)
  have er : rangeD (st : Int) ((row.length : Int) - (st : Int)).toNat = (List.range (row.length - st)).map fun (j : Nat) => D.int ((st + j : Nat) : Int) := by
    rw [rangeD_map, show ((row.length : Int) - (st : Int)).toNat = row.length - st by omega]
    apply List.map_congr_left
    intro i _
    congr 1
  refine run_mseq (run_forN (row.length - st) (f := fun (j : Nat) => D.int ((st + j : Nat) : Int)) (by simp_arith [List.length_map, rng2_ok k1 k2, er])
    (I := fun j ρ => ∃ (e : Nat) (o5 o6 : Option S), (j < row.length - st → e < row.length) ∧ st + fbs up s (row.drop st) = st + j + fb up s (row.getD e 0) (row.drop (st + j)) ∧ ρ = envB row s up st e o5 o6) _ ⟨st, none, none, by omega, by rw [fbs_drop]; rfl, rfl⟩ ?_ ?_)
  · rintro j ρ hj ⟨e, o5, o6, he, ht, rfl⟩
    have he := he hj
    have hx : st + j < row.length := by omega
    have a1 := at_nat row (st + j) hx
    have a2 := at_nat row e he
    rw [drop_getD row (st + j) hx, fb] at ht
    generalize hx' : row.getD (st + j) 0 = x at a1 ht
    generalize hb' : row.getD e 0 = b at a2 ht
    refine ⟨_, rfl, ?_⟩
    unfold b_first_break_f0 envB
    ((apply run_seq; focus (simp_arith [a1, a2]; rfl)))
    refine run_seq (ρ' := envB row s up st e (some (.sh (.int ((st + j : Nat) : Int)))) (some (.sh (.int (gn up x b))))) ?_ ?_
    · unfold envB
      cases up
      · have : gn false x b = -(x - b) := by unfold gn; simp; omega
        rw [this]
        simp_arith [kd, dd, Bool.false_eq_true, if_false]
      · have : gn true x b = x - b := rfl
        rw [this]
        simp_arith [kd, ud, if_true]
    unfold envB
    by_cases hb : gn up x b ≤ -s
    · rw [if_pos hb] at ht
      refine run_mseq ⟨.rt (.int ((st + j : Nat) : Int)), by simp_arith [hb, decide_true], ?_⟩
      show Out.rt _ = Out.rt _
      rw [ht]; rfl
    · rw [if_neg hb] at ht
      ((apply run_seq; focus (simp_arith [hb, decide_false]; rfl)))
      by_cases hg : 0 < gn up x b
      · rw [if_pos hg] at ht
        refine ⟨_, by simp_arith [hg, decide_true]; rfl, ?_⟩
        refine ⟨st + j, _, _, fun _ => hx, ?_, rfl⟩
        rw [hx', ht, show st + (j + 1) = st + j + 1 by omega]; omega
      · rw [if_neg hg] at ht
        refine ⟨_, by simp_arith [hg, decide_false]; rfl, ?_⟩
        refine ⟨e, _, _, fun _ => he, ?_, rfl⟩
        rw [hb', ht, show st + (j + 1) = st + j + 1 by omega]; omega
  · rintro ρ ⟨e, o5, o6, he, ht, rfl⟩
    refine ⟨_, by unfold envB; simp_arith [List.length_map]; rfl, ?_⟩
    rw [show st + (row.length - st) = row.length by omega, List.drop_length, fb] at ht
    rw [ht]; rfl
end

section
open PySem L2
theorem flVs_ints : ∀ ps : List Int, flVs (ps.map D.int) = some (ps.map V.int)
  | [] => rfl
  | p :: ps => by
    rw [List.map_cons, flVs, flVs_ints ps]; rfl
theorem inD_zero (ps : List Int) : inD true (.int 0) (.lst (ps.map .int)) = some (.bl (!(ps.any fun y => y == 0))) := by
  show inDs true (.int 0) (ps.map .int) = _
  unfold inDs
  rw [flVs_ints]
  show some (D.bl (!inV (.int 0) (ps.map V.int))) = _
  unfold inV
  rw [List.any_map]
  rfl
theorem are_cuts_eq (row cuts : List Int) : m_are_cuts [.lst (row.map .int), .lst (cuts.map .int)] = some (.sh (.bl (pok row.length 0 cuts && !(cuts.any fun y => y == 0)))) := by
  unfold m_are_cuts b_are_cuts
  refine runB_rt ?_
  unfold mret
  have h1 : mcall m_are_places (acons (mvar 0) (acons (mvar 1) anil)) (startS 2 [.lst (row.map .int), .lst (cuts.map .int)]) = some (.bl (pok row.length 0 cuts)) :=
    mcall_sh (acons_ev (by simp_arith []) (acons_ev (by simp_arith []) anil_ev)) (are_places_eq row cuts)
  have h2 : m2 (inD true) (mc (.int 0)) (mvar 1) (startS 2 [.lst (row.map .int), .lst (cuts.map .int)]) = some (.bl (!(cuts.any fun y => y == 0))) := by simp_arith [inD_zero]
  rw [mand_bl h1 h2]; rfl
theorem mminL_ev {m : ML} {ρ : Ro} {x : Int} {r : List Int} (h : m ρ = some ((x :: r).map .int)) : mminL m ρ = some (.int (minI (x :: r))) := by
  unfold mminL; rw [h]; simp only [intsD_map]
theorem tab_kd (up : Bool) : tabD tab_OTHER_KIND (.str (kd up)) = some (.str (kd (!up))) := by
  have h : tab_OTHER_KIND.lookup (kd up) = some (kd (!up)) := by cases up <;> decide +kernel
  show (tab_OTHER_KIND.lookup (kd up)).map D.str = _
  rw [h]; rfl
theorem tabIn_kd (up : Bool) : tabInD tab_OTHER_KIND true (.str (kd up)) = some (.bl false) := by
  have h : (tab_OTHER_KIND.lookup (kd up)).isSome = true := by cases up <;> decide +kernel
  show some (D.bl (!(tab_OTHER_KIND.lookup (kd up)).isSome)) = _
  rw [h]; rfl
theorem tabIn_no (w : Str) (h1 : w ≠ "up") (h2 : w ≠ "down") : tabInD tab_OTHER_KIND true (.str w) = some (.bl true) := by
  show some (D.bl (!(tab_OTHER_KIND.lookup w).isSome)) = _
  have e1 : (w == ("up" : Str)) = false := beq_eq_false_iff_ne.mpr h1
  have e2 : (w == ("down" : Str)) = false := beq_eq_false_iff_ne.mpr h2
  unfold tab_OTHER_KIND
  simp only [List.lookup_cons, e1, e2, List.lookup_nil]; rfl
noncomputable def NI (cs : List Nat) : List Int := cs.map fun (c : Nat) => (c : Int)
noncomputable def ent (n : Nat) (cs : List Nat) : Nat := match cs with | [] => n | c :: _ => c
theorem rise_le (n : Nat) : ∀ (cs : List Nat) (l : Nat), rise n l cs → ∀ c ∈ cs, l < c ∧ c < n
  | [], _, _, _, h => by cases h
  | d :: cs, l, r, c, h => by
    rcases List.mem_cons.mp h with w | w
    · subst w; exact ⟨r.1, r.2.1⟩
    · have := rise_le n cs d r.2.2 c w; exact ⟨Nat.lt_trans r.1 this.1, this.2⟩
theorem min_ent (n : Nat) (cs : List Nat) (l : Nat) (h : rise n l cs) : minI (NI cs ++ [(n : Int)]) = (ent n cs : Int) := by
  have hm := minI_mem (ns := NI cs ++ [(n : Int)]) (by simp)
  have hle : ∀ y ∈ NI cs ++ [(n : Int)], minI (NI cs ++ [(n : Int)]) ≤ y := fun y hy => minI_le hy
  cases cs with
  | nil => simp [NI, ent, minI]
  | cons c r =>
    have h1 := hle (c : Int) (by simp [NI])
    have h2 : (c : Int) ≤ minI (NI (c :: r) ++ [(n : Int)]) := by
      rcases List.mem_append.mp hm with z | z
      · unfold NI at z
        obtain ⟨d, hd, e⟩ := List.mem_map.mp z
        unfold NI
        rw [← e]
        rcases List.mem_cons.mp hd with w | w
        · subst w; omega
        · have := rise_le n r c h.2.2 d w; omega
      · simp at z; rw [z]; have := h.2.1; omega
    show _ = (c : Int)
    omega
theorem zip_prs (n : Nat) : ∀ (tl : List Nat) (st : Nat), List.zipWith (fun d e => D.tup [d, e]) (D.int (st : Int) :: (NI tl).map .int) ((NI tl).map .int ++ [D.int (n : Int)]) = (prs n st tl).map fun p => D.tup [.int (p.1 : Int), .int (p.2 : Int)]
  | [], st => rfl
  | c :: cs, st => by
    show D.tup [D.int (st : Int), D.int (c : Int)] :: List.zipWith (fun d e => D.tup [d, e]) (D.int (c : Int) :: (NI cs).map .int) ((NI cs).map .int ++ [D.int (n : Int)]) = _
    rw [zip_prs n cs c]; rfl
noncomputable def envS (row : List Int) (s : Int) (pap cuts : D) (up : Bool) (fe : Int) (k : Bool) (o7 o8 : Option S) : Ro := [some (.sh (.lst (row.map .int))), some (.sh (.int s)), some (.sh pap), some (.sh (.str (kd up))), some (.sh cuts), some (.sh (.int fe)), some (.sh (.str (kd k))), o7, o8]
theorem tlt_ev {x y : ME} {ρ : Ro} {i j : Int} (h1 : x ρ = some (.int i)) (h2 : y ρ = some (.int j)) : mtest (m2 ltD x y) ρ = some (decide (i < j)) := by
  unfold mtest m2; rw [h1, h2]; rfl
theorem show_body (row : List Int) (s : Int) (hs : 1 ≤ s) (hr : row.length ≤ 1000) (pap cuts : D) (up : Bool) (fe : Int) (k : Bool) (st e : Nat) (h1 : st ≤ e) (h2 : e ≤ row.length) (Q : Out → Prop)
    (q1 : pr k s (seg row (st, e)) = false → Q (.rt (.bl false))) (q2 : pr k s (seg row (st, e)) = true → Q (.nx (envS row s pap cuts up fe (!k) (some (.sh (.int (st : Int)))) (some (.sh (.int (e : Int))))))) :
    Run b_pieces_show_f0 (envS row s pap cuts up fe k (some (.sh (.int (st : Int)))) (some (.sh (.int (e : Int))))) Q := by
  have hc : mcall m_first_break (acons (mvar 0) (acons (mvar 1) (acons (mvar 6) (acons (mvar 7) anil)))) (envS row s pap cuts up fe k (some (.sh (.int (st : Int)))) (some (.sh (.int (e : Int))))) = some (.int ((st + fbs k s (row.drop st) : Nat) : Int)) :=
    mcall_sh (acons_ev (by unfold envS; simp_arith []) (acons_ev (by unfold envS; simp_arith []) (acons_ev (by unfold envS; simp_arith []) (acons_ev (by unfold envS; simp_arith []) anil_ev)))) (first_break_eq row s k st (by omega) hr)
  have ht : mtest (m2 ltD (mcall m_first_break (acons (mvar 0) (acons (mvar 1) (acons (mvar 6) (acons (mvar 7) anil))))) (mvar 8)) (envS row s pap cuts up fe k (some (.sh (.int (st : Int)))) (some (.sh (.int (e : Int))))) = some (!pr k s (seg row (st, e))) := by
    rw [← seg_lt k s hs row st e h1 h2]
    exact tlt_ev hc (by unfold envS; simp_arith [])
  unfold b_pieces_show_f0
  refine run_mseq (run_if ht ?_)
  cases hp : pr k s (seg row (st, e)) with
  | false => exact ⟨_, rfl, q1 hp⟩
  | true =>
    refine ⟨_, rfl, ?_⟩
    refine ⟨_, ?_, q2 hp⟩
    unfold envS
    simp_arith [tab_kd]
theorem pieces_show_bad (row : List Int) (s : Int) (hs : 1 ≤ s) (w : Str) (cuts : List Int) (h1 : w ≠ "up") (h2 : w ≠ "down") : m_pieces_show [.lst (row.map .int), .int s, .tup [.str w, .lst (cuts.map .int)]] = some (.sh (.bl false)) := by
  unfold m_pieces_show b_pieces_show
  refine runB_run ?_
  ((apply run_seq; focus (simp_arith [refuse_step_eq s hs]; rfl)))
  ((apply run_seq; focus (simp_arith []; rfl)))
  exact run_mseq ⟨.rt (.bl false), by simp_arith [tabIn_no w h1 h2], rfl⟩
theorem pieces_show_no (row : List Int) (s : Int) (hs : 1 ≤ s) (up : Bool) (cuts : List Int) (h : (pok row.length 0 cuts && !(cuts.any fun y => y == 0)) = false) : m_pieces_show [.lst (row.map .int), .int s, .tup [.str (kd up), .lst (cuts.map .int)]] = some (.sh (.bl false)) := by
  unfold m_pieces_show b_pieces_show
  refine runB_run ?_
  ((apply run_seq; focus (simp_arith [refuse_step_eq s hs]; rfl)))
  ((apply run_seq; focus (simp_arith []; rfl)))
  have e := are_cuts_eq row cuts
  rw [h] at e
  refine run_mseq ⟨.rt (.bl false), ?_, rfl⟩
  simp_arith [tabIn_kd, e, Bool.not_false]
theorem pieces_show_ok (row : List Int) (s : Int) (hs : 1 ≤ s) (hr : row.length ≤ 1000) (up : Bool) (cs : List Nat) (hc : rise row.length 0 cs) (hl : cs.length ≤ 1000) :
    m_pieces_show [.lst (row.map .int), .int s, .tup [.str (kd up), .lst ((NI cs).map .int)]] = some (.sh (.bl (pr (!up) s (row.take (ent row.length cs)) && alt s row up 0 cs.tail))) := by
  unfold m_pieces_show b_pieces_show
  refine runB_run ?_
  ((apply run_seq; focus (simp_arith [refuse_step_eq s hs]; rfl)))
  ((apply run_seq; focus (simp_arith []; rfl)))
  have i1 : 0 + 1 ≤ sizeLine := le_size (by decide)
  have e := are_cuts_eq row (NI cs)
  rw [(cuts_ok row.length (NI cs)).mpr ⟨cs, rfl, hc⟩] at e
  ((apply run_seq; focus (simp_arith [tabIn_kd, e, Bool.not_true]; rfl)))
  have hce : ent row.length cs ≤ row.length := by
    cases cs with
    | nil => exact Nat.le_refl _
    | cons c r => exact Nat.le_of_lt hc.2.1
  refine run_seq (ρ' := [some (.sh (.lst (row.map .int))), some (.sh (.int s)), some (.sh (.tup [.str (kd up), .lst ((NI cs).map .int)])), some (.sh (.str (kd up))), some (.sh (.lst ((NI cs).map .int))), some (.sh (.int (ent row.length cs : Int))), none, none, none]) ?_ ?_
  · unfold mset
    have g : (NI cs).length + (0 + 1) ≤ sizeLine := le_size (by unfold NI; simp; omega)
    obtain ⟨x, r, hx⟩ : ∃ x r, NI cs ++ [(row.length : Int)] = x :: r := by
      cases h : NI cs ++ [(row.length : Int)] with
      | nil => simp at h
      | cons x r => exact ⟨x, r, rfl⟩
    rw [mminL_ev (x := x) (r := r) (by rw [← hx]; simp_arith [i1, if_true, List.length_map, g, List.map_append])]
    rw [← hx, min_ent row.length cs 0 hc]; rfl
  have hfb : mcall m_first_break (acons (mvar 0) (acons (mvar 1) (acons (m1 (tabD tab_OTHER_KIND) (mvar 3)) (acons (mc (.int 0)) anil)))) [some (.sh (.lst (row.map .int))), some (.sh (.int s)), some (.sh (.tup [.str (kd up), .lst ((NI cs).map .int)])), some (.sh (.str (kd up))), some (.sh (.lst ((NI cs).map .int))), some (.sh (.int (ent row.length cs : Int))), none, none, none] = some (.int ((0 + fbs (!up) s (row.drop 0) : Nat) : Int)) :=
    mcall_sh (acons_ev (by simp_arith []) (acons_ev (by simp_arith []) (acons_ev (by simp_arith [tab_kd]) (acons_ev (by simp_arith []; rfl) anil_ev)))) (first_break_eq row s (!up) 0 (Nat.zero_le _) hr)
  refine run_mseq (run_if (b := !pr (!up) s (seg row (0, ent row.length cs))) ?_ ?_)
  · rw [← seg_lt (!up) s hs row 0 (ent row.length cs) (Nat.zero_le _) hce]
    exact tlt_ev hfb (by simp_arith [])
  have sg : seg row (0, ent row.length cs) = row.take (ent row.length cs) := rfl
  rw [sg]
  cases hp : pr (!up) s (row.take (ent row.length cs)) with
  | false => exact ⟨_, rfl, rfl⟩
  | true =>
    refine ⟨_, rfl, ?_⟩
    rw [Bool.true_and]
    show Run _ _ _
    ((apply run_seq; focus (simp_arith []; rfl)))
    have c1 : cutI (NI cs) (some 1) none = NI cs.tail := by
      rw [show (1 : Int) = ((1 : Nat) : Int) from rfl, cutI_from]; cases cs <;> rfl
    have ht : rise row.length 0 cs.tail := by
      cases cs with
      | nil => exact True.intro
      | cons c r =>
        show rise row.length 0 r
        cases r with
        | nil => exact True.intro
        | cons d r => exact ⟨Nat.lt_trans hc.1 hc.2.2.1, hc.2.2.2⟩
    have g1 : 0 + 1 + (NI cs.tail).length ≤ sizeLine := le_size (by unfold NI; simp; omega)
    have g2 : (NI cs.tail).length + (0 + 1) ≤ sizeLine := le_size (by unfold NI; simp; omega)
    have z := zip_prs row.length cs.tail 0
    refine run_mseq (run_for (prs row.length 0 cs.tail) (f := fun p => D.tup [.int (p.1 : Int), .int (p.2 : Int)]) ?_
      (I := fun ps ρ => ∃ (k : Bool) (o7 o8 : Option S), ρ = envS row s (.tup [.str (kd up), .lst ((NI cs).map .int)]) (.lst ((NI cs).map .int)) up (ent row.length cs : Int) k o7 o8 ∧ ((∃ st cs', ps = prs row.length st cs' ∧ alt s row up 0 cs.tail = alt s row k st cs' ∧ rise row.length st cs' ∧ st ≤ row.length) ∨ (ps = [] ∧ alt s row up 0 cs.tail = true))) _
      ⟨up, none, none, rfl, Or.inl ⟨0, cs.tail, rfl, rfl, ht, Nat.zero_le _⟩⟩ ?_ ?_)
    · simp_arith [cutL_map, c1, i1, if_true, List.length_map, g1, g2, List.cons_append, List.nil_append]
      rw [← z]; rfl
    · rintro ⟨a, b⟩ ps ρ ⟨k, o7, o8, rfl, h⟩
      refine ⟨_, rfl, ?_⟩
      rcases h with ⟨st, cs', hps, ha, hri, hst⟩ | ⟨hps, _⟩
      · cases cs' with
        | nil =>
          obtain ⟨e1, e2⟩ := List.cons.inj hps
          cases e1
          refine show_body row s hs hr _ _ up _ k a row.length hst (Nat.le_refl _) _ (fun q => ?_) (fun q => ?_)
          · show Out.rt _ = Out.rt _
            rw [ha, alt, q]
          · exact ⟨_, _, _, rfl, Or.inr ⟨e2, by rw [ha, alt, q]⟩⟩
        | cons c cs' =>
          obtain ⟨e1, e2⟩ := List.cons.inj hps
          cases e1
          refine show_body row s hs hr _ _ up _ k a b (Nat.le_of_lt hri.1) (Nat.le_of_lt hri.2.1) _ (fun q => ?_) (fun q => ?_)
          · show Out.rt _ = Out.rt _
            rw [ha, alt, q]; rfl
          · exact ⟨_, _, _, rfl, Or.inl ⟨b, cs', e2, by rw [ha, alt, q, Bool.true_and], hri.2.2, Nat.le_of_lt hri.2.1⟩⟩
      · cases hps
    · rintro ρ ⟨k, o7, o8, rfl, h⟩
      refine ⟨_, rfl, ?_⟩
      rcases h with ⟨st, cs', hps, _⟩ | ⟨_, ha⟩
      · cases cs' <;> cases hps
      · rw [ha]
end

section
open PySem L2
theorem compD_filter {α : Type} {g : Tg} {c : MB} {elt : ME} {f : α → D} {p : α → Bool} {G : α → D} (I : List α → Ro → Prop)
    (hs : ∀ d ds ρ, I (d :: ds) ρ → ∃ ρ1, tgD g (f d) ρ = some ρ1 ∧ c ρ1 = some (p d) ∧ (p d = true → elt ρ1 = some (G d)) ∧ I ds ρ1) :
    ∀ (ds : List α) (ρ : Ro) (acc : List D), I ds ρ → acc.length + ds.length ≤ sizeLine → compD g c elt (ds.map f) ρ acc = some (acc ++ (ds.filter p).map G)
  | [], ρ, acc, h, hl => by simp [compD]
  | d :: ds, ρ, acc, h, hl => by
    obtain ⟨ρ1, h1, h2, h3, h4⟩ := hs d ds ρ h
    rw [List.length_cons] at hl
    rw [List.map_cons]
    unfold compD
    rw [h1]
    simp only [h2]
    cases hp : p d with
    | false =>
      simp only
      rw [compD_filter I hs ds ρ1 acc h4 (by omega), List.filter_cons, hp]
      rfl
    | true =>
      simp only [h3 hp]
      rw [if_pos (by omega), compD_filter I hs ds ρ1 _ h4 (by simp; omega), List.filter_cons, hp]
      simp
theorem eqB_nil {m : ML} {ρ : Ro} {ds : List D} (h : m ρ = some ds) : mtest (meqB true m (sized anil)) ρ = some (!ds.isEmpty) := by
  have i0 : 0 ≤ sizeLine := Nat.zero_le _
  have e : sized anil ρ = some [] := by simp_arith [i0, if_true]
  unfold mtest meqB
  rw [h, e]
  simp only [Option.bind_some, eq_nilT]
theorem cand_ev {x y : MB} {ρ : Ro} {a b : Bool} (h1 : x ρ = some a) (h2 : y ρ = some b) : cand x y ρ = some (a && b) := by
  unfold cand; rw [h1]; cases a <;> simp [h2]
theorem mset_ev {i : Nat} {x : ME} {ρ : Ro} {d : D} (h : x ρ = some d) : mset i x ρ = some (.nx (ρ.set i (some (.sh d)))) := by unfold mset; rw [h]; rfl
theorem mlst_ev {m : ML} {ρ : Ro} {ds : List D} (h : m ρ = some ds) : mlst m ρ = some (.lst ds) := by unfold mlst; rw [h]; rfl
theorem sized_ev {m : ML} {ρ : Ro} {ds : List D} (h : m ρ = some ds) (hz : ds.length ≤ sizeLine) : sized m ρ = some ds := by
  unfold sized; rw [h]; show (if ds.length ≤ sizeLine then some ds else none) = _; rw [if_pos hz]
theorem mix_ev {m : ML} {i : ME} {ρ : Ro} {ds : List D} {k : Int} {d : D} (h1 : m ρ = some ds) (h2 : i ρ = some (.int k)) (h3 : atI ds k = some d) : mix m i ρ = some d := by
  unfold mix; rw [h1, h2]; exact h3
theorem aslst_ev {m : ME} {ρ : Ro} {ds : List D} (h : m ρ = some (.lst ds)) : aslst m ρ = some ds := by unfold aslst; rw [h]
theorem mcat_ev {x y : ML} {ρ : Ro} {ds es : List D} (h1 : x ρ = some ds) (h2 : y ρ = some es) (hz : ds.length + es.length ≤ sizeLine) : mcat x y ρ = some (ds ++ es) := by
  unfold mcat; rw [h1, h2]; show (if ds.length + es.length ≤ sizeLine then some (ds ++ es) else none) = _; rw [if_pos hz]
theorem mtup_ev {m : ML} {ρ : Ro} {ds : List D} (h : m ρ = some ds) (hz : ds.length ≤ sizeLine) : mtup m ρ = some (.tup ds) := by
  unfold mtup; rw [sized_ev h hz]; rfl
end

section
open PySem L2
noncomputable def chain (s : Int) (row : List Int) : Nat → Bool → Nat → List Nat
  | 0, _, _ => []
  | f + 1, k, c => if c < row.length then c :: chain s row f (!k) (c + fbs k s (row.drop c)) else []
noncomputable def brk (k : Bool) (s : Int) (row : List Int) (st e : Nat) : Bool := (seg row (st, e)).any fun x => decide (s ≤ -(gn k (row.getD e 0) x))
theorem fbs_pos (k : Bool) (s : Int) (hs : 1 ≤ s) (row : List Int) (c : Nat) (h : c < row.length) : 1 ≤ fbs k s (row.drop c) := by
  rw [drop_getD row c h]
  show 1 ≤ fb k s (row.getD c 0) (row.getD c 0 :: row.drop (c + 1))
  rw [fb_self k s _ _ hs]
  omega
noncomputable def envQ (row : List Int) (s fall rise : Int) (k0 k : Bool) (cs : List Nat) (c : Nat) : Ro := [some (.sh (.lst (row.map .int))), some (.sh (.int s)), some (.sh (.int fall)), some (.sh (.int rise)), some (.sh (.str (kd k0))), some (.sh (.str (kd k))), some (.own ((NI cs).map .int)), some (.sh (.int (c : Int)))]
theorem of_body (row : List Int) (s : Int) (hr : row.length ≤ 300) (fall rise : Int) (k0 k : Bool) (cs : List Nat) (c : Nat) (hc : c < row.length) (hl : cs.length ≤ c) :
    b_pieces_of_f0 (envQ row s fall rise k0 k cs c) = some (.nx (envQ row s fall rise k0 (!k) (cs ++ [c]) (c + fbs k s (row.drop c)))) := by
  have big := size_big
  unfold b_pieces_of_f0
  refine seqI (ρ' := envQ row s fall rise k0 k (cs ++ [c]) c) ?_ ?_
  · have l2 : ((NI cs).map D.int).length < sizeLine := by unfold NI; simp; omega
    unfold envQ
    simp_arith [l2, if_true]
    unfold NI
    simp
  have hfb : mcall m_first_break (acons (mvar 0) (acons (mvar 1) (acons (mvar 5) (acons (mvar 7) anil)))) (envQ row s fall rise k0 k (cs ++ [c]) c) = some (.int ((c + fbs k s (row.drop c) : Nat) : Int)) :=
    mcall_sh (acons_ev (d := .lst (row.map .int)) rfl (acons_ev (d := .int s) rfl (acons_ev (d := .str (kd k)) rfl (acons_ev (d := .int (c : Int)) rfl anil_ev)))) (first_break_eq row s k c (by omega) (by omega))
  refine seqI (ρ' := envQ row s fall rise k0 k (cs ++ [c]) (c + fbs k s (row.drop c))) ((mset_ev hfb).trans rfl) ?_
  unfold envQ
  simp_arith [tab_kd]
theorem while_chain (row : List Int) (s : Int) (hs : 1 ≤ s) (hr : row.length ≤ 300) (fall rise : Int) (k0 : Bool) : ∀ (f : Nat) (k : Bool) (cs : List Nat) (c : Nat), row.length - c < f → cs.length ≤ c →
    ∃ k' c', whileD (mtest (m2 ltD (mvar 7) (mlen (bvar 0)))) b_pieces_of_f0 f (envQ row s fall rise k0 k cs c) = some (.nx (envQ row s fall rise k0 k' (cs ++ chain s row f k c) c'))
  | 0, _, _, _, h, _ => by omega
  | f + 1, k, cs, c, h, hl => by
    have ht : mtest (m2 ltD (mvar 7) (mlen (bvar 0))) (envQ row s fall rise k0 k cs c) = some (decide ((c : Int) < (row.length : Int))) := tlt_ev rfl (by unfold envQ; simp_arith [List.length_map])
    unfold whileD
    rw [ht]
    by_cases hc : c < row.length
    · have hci : ((c : Int) < (row.length : Int)) := by omega
      simp only [hci, decide_true]
      rw [of_body row s hr fall rise k0 k cs c hc hl]
      have hp := fbs_pos k s hs row c hc
      obtain ⟨k', c', e⟩ := while_chain row s hs hr fall rise k0 f (!k) (cs ++ [c]) (c + fbs k s (row.drop c)) (by omega) (by simp; omega)
      refine ⟨k', c', ?_⟩
      simp only
      rw [e, chain, if_pos hc]
      simp
    · have hci : ¬ ((c : Int) < (row.length : Int)) := by omega
      simp only [hci, decide_false]
      refine ⟨k, c, ?_⟩
      rw [chain, if_neg hc, List.append_nil]
noncomputable def fallN (s : Int) (row : List Int) : Nat := fbs true s row
noncomputable def riseN (s : Int) (row : List Int) : Nat := fbs false s row
noncomputable def kind0 (s : Int) (row : List Int) : Bool := !decide (fallN s row < riseN s row)
noncomputable def cut0 (s : Int) (row : List Int) : Nat := min (fallN s row) (riseN s row)
noncomputable def cutsOf (s : Int) (row : List Int) : List Nat := chain s row 1000 (kind0 s row) (cut0 s row)
theorem pieces_of_eq (row : List Int) (s : Int) (hs : 1 ≤ s) (hr : row.length ≤ 300) : m_pieces_of [.lst (row.map .int), .int s] = some (.sh (.tup [.str (kd (kind0 s row)), .lst ((NI (cutsOf s row)).map .int)])) := by
  unfold m_pieces_of b_pieces_of
  refine runB_run ?_
  ((apply run_seq; focus (simp_arith [refuse_step_eq s hs]; rfl)))
  have f1 := first_break_eq row s true 0 (Nat.zero_le _) (by omega)
  have f2 := first_break_eq row s false 0 (Nat.zero_le _) (by omega)
  rw [List.drop_zero, Nat.zero_add] at f1 f2
  refine run_seq ((mset_ev (mcall_sh (acons_ev (d := .lst (row.map .int)) rfl (acons_ev (d := .int s) rfl (acons_ev (d := .str (kd true)) rfl (acons_ev (d := .int ((0 : Nat) : Int)) rfl anil_ev)))) f1)).trans rfl) ?_
  refine run_seq (ρ' := [some (.sh (.lst (row.map .int))), some (.sh (.int s)), some (.sh (.int (fallN s row : Int))), some (.sh (.int (riseN s row : Int))), none, none, none, none]) ((mset_ev (mcall_sh (acons_ev (d := .lst (row.map .int)) rfl (acons_ev (d := .int s) rfl (acons_ev (d := .str (kd false)) rfl (acons_ev (d := .int ((0 : Nat) : Int)) rfl anil_ev)))) f2)).trans rfl) ?_
  refine run_seq (ρ' := [some (.sh (.lst (row.map .int))), some (.sh (.int s)), some (.sh (.int (fallN s row : Int))), some (.sh (.int (riseN s row : Int))), some (.sh (.str (kd (kind0 s row)))), none, none, none]) ?_ ?_
  · by_cases h : fallN s row < riseN s row
    · have hi : (fallN s row : Int) < (riseN s row : Int) := by omega
      have hk : kind0 s row = false := by unfold kind0; simp [h]
      rw [hk]
      simp_arith [hi, decide_true]
      rfl
    · have hi : ¬ (fallN s row : Int) < (riseN s row : Int) := by omega
      have hk : kind0 s row = true := by unfold kind0; simp [h]
      rw [hk]
      simp_arith [hi, decide_false]
      rfl
  ((apply run_seq; focus (simp_arith []; rfl)))
  have i0 : 0 ≤ sizeLine := Nat.zero_le _
  ((apply run_seq; focus (simp_arith [i0, if_true]; rfl)))
  refine run_seq (ρ' := envQ row s (fallN s row) (riseN s row) (kind0 s row) (kind0 s row) [] (cut0 s row)) ?_ ?_
  · have hm : min (fallN s row : Int) (riseN s row : Int) = ((cut0 s row : Nat) : Int) := by unfold cut0; omega
    simp_arith [min_if, hm]
    rfl
  obtain ⟨k', c', e⟩ := while_chain row s hs hr (fallN s row) (riseN s row) (kind0 s row) 1000 (kind0 s row) [] (cut0 s row) (by omega) (by simp)
  refine run_seq e ?_
  unfold b_pieces_of_r1
  refine run_freeze (ds := (NI (cutsOf s row)).map .int) rfl ?_
  refine ⟨_, ?_, rfl⟩
  have i2 : 0 + 1 + 1 ≤ sizeLine := le_size (by decide)
  unfold envQ
  simp_arith [i2, if_true, cutsOf, List.nil_append]
end

section
open PySem L2
noncomputable def lx : List Nat → List Nat → Bool
  | [], [] => false
  | [], _ :: _ => true
  | _ :: _, [] => false
  | a :: l, b :: m => decide (a < b) || (a == b && lx l m)
noncomputable def ahead (l m : List Nat) : Bool := decide (m.length < l.length) || (l.length == m.length && lx l m)
theorem lx_irr : ∀ l, lx l l = false
  | [] => rfl
  | a :: l => by unfold lx; simp [lx_irr l]
theorem lx_trans : ∀ {a b c : List Nat}, lx a b = true → lx b c = true → lx a c = true
  | [], [], _, h, _ => by cases h
  | [], _ :: _, [], _, h => by cases h
  | [], _ :: _, _ :: _, _, _ => rfl
  | _ :: _, [], _, h, _ => by cases h
  | _ :: _, _ :: _, [], _, h => by cases h
  | a :: l, b :: m, c :: k, h1, h2 => by
    unfold lx at *
    simp only [Bool.or_eq_true, Bool.and_eq_true, decide_eq_true_eq, beq_iff_eq] at *
    rcases h1 with h1 | ⟨rfl, h1⟩ <;> rcases h2 with h2 | ⟨rfl, h2⟩
    · exact .inl (by omega)
    · exact .inl h1
    · exact .inl h2
    · exact .inr ⟨rfl, lx_trans h1 h2⟩
theorem lx_tri : ∀ (a b : List Nat), a = b ∨ lx a b = true ∨ lx b a = true
  | [], [] => .inl rfl
  | [], _ :: _ => .inr (.inl rfl)
  | _ :: _, [] => .inr (.inr rfl)
  | a :: l, b :: m => by
    unfold lx
    simp only [Bool.or_eq_true, Bool.and_eq_true, decide_eq_true_eq, beq_iff_eq]
    rcases Nat.lt_trichotomy a b with h | h | h
    · exact .inr (.inl (.inl h))
    · subst h
      rcases lx_tri l m with h | h | h
      · exact .inl (by rw [h])
      · exact .inr (.inl (.inr ⟨rfl, h⟩))
      · exact .inr (.inr (.inr ⟨rfl, h⟩))
    · exact .inr (.inr (.inl h))
theorem ahead_iff (l m : List Nat) : ahead l m = true ↔ m.length < l.length ∨ (l.length = m.length ∧ lx l m = true) := by
  unfold ahead
  simp only [Bool.or_eq_true, Bool.and_eq_true, decide_eq_true_eq, beq_iff_eq]
theorem ahead_trans {a b c : List Nat} (h1 : ahead a b = true) (h2 : ahead b c = true) : ahead a c = true := by
  rw [ahead_iff] at *
  rcases h1 with h1 | ⟨h1, h1'⟩ <;> rcases h2 with h2 | ⟨h2, h2'⟩
  · exact .inl (by omega)
  · exact .inl (by omega)
  · exact .inl (by omega)
  · exact .inr ⟨by omega, lx_trans h1' h2'⟩
theorem ahead_tri (a b : List Nat) : a = b ∨ ahead a b = true ∨ ahead b a = true := by
  rw [ahead_iff, ahead_iff]
  rcases Nat.lt_trichotomy a.length b.length with h | h | h
  · exact .inr (.inr (.inl h))
  · rcases lx_tri a b with z | z | z
    · exact .inl z
    · exact .inr (.inl (.inr ⟨h, z⟩))
    · exact .inr (.inr (.inr ⟨h.symm, z⟩))
  · exact .inr (.inl (.inl h))
theorem ahead_irr (a : List Nat) : ahead a a = false := by
  unfold ahead; simp [lx_irr]
theorem ahead_cons (p : Nat) (a b : List Nat) : ahead (p :: a) (p :: b) = ahead a b := by
  unfold ahead
  simp [lx]
noncomputable def Best (P : List Nat → Prop) (l : List Nat) : Prop := P l ∧ ∀ m, P m → ahead m l = false
theorem Best.iff {P Q : List Nat → Prop} {l : List Nat} (a : Best P l) (h : ∀ m, P m ↔ Q m) : Best Q l := ⟨(h l).mp a.1, fun m hm => a.2 m ((h m).mpr hm)⟩
theorem Best.len {P : List Nat → Prop} {l : List Nat} (a : Best P l) (m : List Nat) (h : P m) : m.length ≤ l.length := by
  have := a.2 m h
  rcases Nat.lt_or_ge l.length m.length with z | z
  · rw [(ahead_iff m l).mpr (.inl z)] at this; cases this
  · exact z
noncomputable def far (s : Int) (d : Bool) (a b : Int) : Prop := if d then s ≤ b - a else s ≤ a - b
noncomputable instance (s : Int) (d : Bool) (a b : Int) : Decidable (far s d a b) := by unfold far; exact inferInstance
noncomputable def Wd (x : Nat → Int) (n : Nat) (s : Int) : Bool → List Nat → Prop
  | _, [] => False
  | _, [p] => p < n
  | d, p :: q :: l => p < q ∧ far s d (x p) (x q) ∧ Wd x n s (!d) (q :: l)
noncomputable def Wv (x : Nat → Int) (n : Nat) (s : Int) (l : List Nat) : Prop := l = [] ∨ ∃ d, Wd x n s d l
noncomputable def From (x : Nat → Int) (n : Nat) (s : Int) (d : Bool) (p t : Nat) (l : List Nat) : Prop := Wd x n s d l ∧ (l = [p] ∨ ∃ q m, l = p :: q :: m ∧ q ≤ t)
variable {x : Nat → Int} {n : Nat} {s : Int}
theorem Wd.lt : ∀ {l : List Nat} {d : Bool} {p : Nat}, Wd x n s d (p :: l) → p < n
  | [], d, p, h => h
  | q :: l, d, p, h => Nat.lt_trans h.1 h.2.2.lt
theorem Wd.len : ∀ {l : List Nat} {d : Bool} {p : Nat}, Wd x n s d (p :: l) → l.length + p < n
  | [], d, p, h => by have h : p < n := h; simpa using h
  | q :: l, d, p, h => by
    have := h.2.2.len
    have := h.1
    simp; omega
theorem from_one {d : Bool} {p : Nat} (hp : p < n) : Best (From x n s d p p) [p] := by
  refine ⟨⟨hp, .inl rfl⟩, ?_⟩
  rintro m ⟨h1, h2⟩
  rcases h2 with rfl | ⟨q, m, rfl, hq⟩
  · exact ahead_irr _
  · have := h1.1; omega
theorem from_step {d : Bool} {p q : Nat} {U T : List Nat} (hq : p < q) (hU : Best (From x n s d p (q - 1)) U) (hT : Best (From x n s (!d) q n) T) (decf : Decidable (far s d (x p) (x q))) :
    Best (From x n s d p q) (if far s d (x p) (x q) ∧ U.length ≤ T.length then p :: T else U) := by
  have hTq : ∃ m, T = q :: m := by
    rcases hT.1.2 with h | ⟨r, m, h, _⟩
    · exact ⟨_, h⟩
    · exact ⟨_, h⟩
  have low : ∀ m, From x n s d p (q - 1) m → From x n s d p q m := fun m h => ⟨h.1, h.2.imp id fun ⟨r, m, e, hr⟩ => ⟨r, m, e, by omega⟩⟩
  have split : ∀ m, From x n s d p q m → From x n s d p (q - 1) m ∨ ∃ k, m = p :: k ∧ far s d (x p) (x q) ∧ From x n s (!d) q n k := by
    rintro m ⟨h1, h2⟩
    rcases h2 with rfl | ⟨r, m, rfl, hr⟩
    · exact .inl ⟨h1, .inl rfl⟩
    · rcases Nat.lt_or_ge r q with z | z
      · exact .inl ⟨h1, .inr ⟨r, m, rfl, by omega⟩⟩
      · have : r = q := by omega
        subst this
        refine .inr ⟨_, rfl, h1.2.1, h1.2.2, ?_⟩
        cases m with
        | nil => exact .inl rfl
        | cons t m => exact .inr ⟨t, m, rfl, Nat.le_of_lt h1.2.2.2.2.lt⟩
  obtain ⟨T', eT⟩ := hTq
  split
  · rename_i h
    refine ⟨⟨?_, ?_⟩, fun m hm => ?_⟩
    · rw [eT]; exact ⟨hq, h.1, by rw [← eT]; exact hT.1.1⟩
    · exact .inr ⟨q, T', by rw [eT], Nat.le_refl _⟩
    · rcases split m hm with z | ⟨k, rfl, _, z⟩
      · have := hU.len m z
        cases e : ahead m (p :: T) with
        | false => rfl
        | true =>
          rw [ahead_iff] at e
          simp only [List.length_cons] at e
          omega
      · rw [ahead_cons]; exact hT.2 k z
  · rename_i h
    refine ⟨low _ hU.1, fun m hm => ?_⟩
    rcases split m hm with z | ⟨k, rfl, hf, z⟩
    · exact hU.2 m z
    · have hl : ¬ U.length ≤ T.length := fun w => h ⟨hf, w⟩
      have := hT.len k z
      cases e : ahead (p :: k) U with
      | false => rfl
      | true =>
        rw [ahead_iff] at e
        simp only [List.length_cons] at e
        rcases e with e | ⟨e1, e2⟩
        · omega
        · rcases hU.1.2 with w | ⟨r, m, w, hr⟩
          · have : k.length = 0 := by rw [w] at e1; simpa using e1
            rcases z.2 with y | ⟨_, _, y, _⟩ <;> (rw [y] at this; simp at this)
          · have hk : ∃ k', k = q :: k' := by
              rcases z.2 with y | ⟨_, _, y, _⟩
              · exact ⟨_, y⟩
              · exact ⟨_, y⟩
            obtain ⟨k', rfl⟩ := hk
            rw [w] at e2
            unfold lx at e2
            simp only [Nat.lt_irrefl, decide_false, beq_self_eq_true, Bool.true_and, Bool.false_or] at e2
            unfold lx at e2
            simp only [Bool.or_eq_true, Bool.and_eq_true, decide_eq_true_eq, beq_iff_eq] at e2
            omega
theorem from_all {d : Bool} {p t : Nat} {l : List Nat} (h : Best (From x n s d p t) l) (ht : n ≤ t + 1) : Best (From x n s d p n) l :=
  h.iff fun m => ⟨fun a => ⟨a.1, a.2.imp id fun ⟨q, k, e, hq⟩ => ⟨q, k, e, by rw [e] at a; exact Nat.le_of_lt a.1.2.2.lt⟩⟩, fun a => ⟨a.1, a.2.imp id fun ⟨q, k, e, hq⟩ => ⟨q, k, e, by rw [e] at a; have := a.1.2.2.lt; omega⟩⟩⟩
theorem from_skip {d : Bool} {p t t' : Nat} {l : List Nat} (h : Best (From x n s d p t) l) (ht : t = t') : Best (From x n s d p t') l := ht ▸ h
theorem wd_from {d : Bool} {p : Nat} {l : List Nat} (h : Wd x n s d (p :: l)) : From x n s d p n (p :: l) := ⟨h, by
  cases l with
  | nil => exact .inl rfl
  | cons q l => exact .inr ⟨q, l, rfl, Nat.le_of_lt h.2.2.lt⟩⟩
theorem best_all {l : List Nat} {ls : List (List Nat)} (hm : l ∈ ls) (hmin : ∀ m ∈ ls, ahead m l = false) (hw : ∀ m ∈ ls, Wv x n s m) (hall : ∀ d p, p < n → ∃ m ∈ ls, Best (From x n s d p n) m) (hn : l ≠ []) : Best (Wv x n s) l := by
  refine ⟨hw l hm, fun m h => ?_⟩
  rcases h with rfl | ⟨d, h⟩
  · cases e : ahead [] l with
    | false => rfl
    | true =>
      rw [ahead_iff] at e
      simp only [List.length_nil] at e
      rcases e with e | ⟨e, _⟩
      · omega
      · exact absurd (List.length_eq_zero_iff.mp e.symm) hn
  · cases m with
    | nil => exact h.elim
    | cons p m =>
      obtain ⟨k, hk, hb⟩ := hall d p h.lt
      have h1 := hb.2 _ (wd_from h)
      have h2 := hmin k hk
      cases e : ahead (p :: m) l with
      | false => rfl
      | true =>
        rcases ahead_tri k (p :: m) with z | z | z
        · rw [← z, h2] at e; cases e
        · rw [ahead_trans z e] at h2; cases h2
        · rw [z] at h1; cases h1
theorem best_none (hn : n = 0) : Best (Wv x n s) [] := by
  refine ⟨.inl rfl, fun m h => ?_⟩
  rcases h with rfl | ⟨d, h⟩
  · rfl
  · cases m with
    | nil => exact h.elim
    | cons p m => have := h.lt; omega
end

section
open PySem L2
noncomputable def dN (p : Nat) : D := .int (p : Int)
noncomputable def L (l : List Nat) : D := .lst (l.map dN)
noncomputable def Ky (l : List Nat) : D := .tup [.int (-(l.length : Int)), L l]
theorem eqF_nn (k : Nat) (a b : Nat) : eqF (k + 1) (dN a) (dN b) = some (a == b) := by
  show some ((a : Int) == (b : Int)) = _
  congr 1
  rw [Bool.eq_iff_iff, beq_iff_eq, beq_iff_eq]
  omega
theorem zipE_nn (k : Nat) : ∀ (l m : List Nat), l.length = m.length → zipE (eqF (k + 1)) (l.map dN) (m.map dN) = some (l == m)
  | [], [], _ => rfl
  | [], _ :: _, h => by cases h
  | _ :: _, [], h => by cases h
  | a :: l, b :: m, h => by
    rw [List.map_cons, List.map_cons, zipE, eqF_nn, zipE_nn k l m (by simpa using h)]
    rfl
theorem lexF_nn (k : Nat) : ∀ (l m : List Nat), lexF (eqF (k + 1)) (ltF (k + 1)) (l.map dN) (m.map dN) = some (lx l m)
  | [], [] => rfl
  | [], _ :: _ => rfl
  | _ :: _, [] => rfl
  | a :: l, b :: m => by
    rw [List.map_cons, List.map_cons, lexF, eqF_nn]
    unfold lx
    by_cases h : a = b
    · subst h
      simp only [beq_self_eq_true, Nat.lt_irrefl, decide_false, Bool.true_and, Bool.false_or]
      exact lexF_nn k l m
    · have e : (a == b) = false := by simpa using h
      rw [e]
      simp only [Bool.false_and, Bool.or_false]
      show some (decide ((a : Int) < (b : Int))) = _
      congr 1
      apply decide_eq_decide.mpr
      omega
theorem lt_key (l m : List Nat) : ltF 8 (Ky l) (Ky m) = some (ahead l m) := by
  show lexF (eqF 7) (ltF 7) [.int (-(l.length : Int)), L l] [.int (-(m.length : Int)), L m] = _
  rw [lexF, show eqF 7 (.int (-(l.length : Int))) (.int (-(m.length : Int))) = some (-(l.length : Int) == -(m.length : Int)) from rfl]
  unfold ahead
  by_cases h : l.length = m.length
  · rw [h]
    simp only [beq_self_eq_true, Nat.lt_irrefl, decide_false, Bool.true_and, Bool.false_or]
    have e : eqF 7 (L l) (L m) = some (l == m) := by
      show (if (l.map dN).length = (m.map dN).length then zipE (eqF 6) (l.map dN) (m.map dN) else some false) = _
      rw [if_pos (by simpa using h), zipE_nn 5 l m h]
    rw [lexF, e]
    by_cases hq : l = m
    · subst hq
      simp only [beq_self_eq_true]
      rw [lx_irr]; rfl
    · have e2 : (l == m) = false := by simpa using hq
      rw [e2]
      exact lexF_nn 5 l m
  · have e : (-(l.length : Int) == -(m.length : Int)) = false := by
      rw [beq_eq_false_iff_ne]; omega
    have e2 : (l.length == m.length) = false := by simpa using h
    rw [e, e2]
    simp only [Bool.false_and, Bool.or_false]
    show some (decide (-(l.length : Int) < -(m.length : Int))) = _
    congr 1
    apply decide_eq_decide.mpr
    omega
theorem min_list {mk : D → Option D} (hk : ∀ l, mk (L l) = some (Ky l)) : ∀ (ls : List (List Nat)) (b : List Nat), ∃ r, minF mk (ls.map L) (L b) (Ky b) = some (L r) ∧ r ∈ b :: ls ∧ ∀ m ∈ b :: ls, ahead m r = false
  | [], b => ⟨b, rfl, by simp, by simp [ahead_irr]⟩
  | m :: ls, b => by
    rw [List.map_cons]
    unfold minF
    rw [hk m]
    simp only [lt_key m b]
    cases h : ahead m b with
    | true =>
      obtain ⟨r, e, h1, h2⟩ := min_list hk ls m
      refine ⟨r, e, List.mem_cons_of_mem _ h1, fun k hk' => ?_⟩
      rcases List.mem_cons.mp hk' with rfl | hk'
      · cases z : ahead k r with
        | false => rfl
        | true => have := h2 m (by simp); rw [ahead_trans h z] at this; cases this
      · exact h2 k hk'
    | false =>
      obtain ⟨r, e, h1, h2⟩ := min_list hk ls b
      refine ⟨r, e, ?_, fun k hk' => ?_⟩
      · rcases List.mem_cons.mp h1 with h1 | h1
        · simp [h1]
        · simp [h1]
      · have hb := h2 b (by simp)
        rcases List.mem_cons.mp hk' with rfl | hk'
        · exact hb
        · rcases List.mem_cons.mp hk' with rfl | hk'
          · cases z : ahead k r with
            | false => rfl
            | true =>
              rcases ahead_tri k b with w | w | w
              · rw [w, hb] at z; cases z
              · rw [h] at w; cases w
              · rw [ahead_trans w z] at hb; cases hb
          · exact h2 k (List.mem_cons_of_mem _ hk')
noncomputable abbrev xr (row : List Int) : Nat → Int := fun i => row.getD i 0
noncomputable def envU (row : List Int) (s : Int) (U V : List (List Nat)) (o4 o5 o6 : Option S) : Ro := [some (.sh (.lst (row.map .int))), some (.sh (.int s)), some (.own (U.map L)), some (.own (V.map L)), o4, o5, o6]
theorem tge_ev {x y : ME} {ρ : Ro} {i j : Int} (h1 : x ρ = some (.int i)) (h2 : y ρ = some (.int j)) : mtest (m2 geD x y) ρ = some (decide (j ≤ i)) := by
  unfold mtest m2; rw [h1, h2]; rfl
theorem mlen_ev {m : ML} {ρ : Ro} {ds : List D} (h : m ρ = some ds) : mlen m ρ = some (.int ds.length) := by unfold mlen; rw [h]; rfl
theorem at_L (U : List (List Nat)) (p : Nat) (h : p < U.length) : atI (U.map L) (p : Int) = some (L (U.getD p [])) := by
  have := atI_map L U (p : Int) (by omega) (by omega) []
  rw [Int.toNat_natCast] at this
  exact this
theorem ixN_nat (n p : Nat) (h : p < n) : ixN n (p : Int) = some p := by
  unfold ixN
  rw [if_pos (by omega), if_pos (by omega), Int.toNat_natCast]
noncomputable def upU (s : Int) (row : List Int) (d : Bool) (U V : List (List Nat)) (p q : Nat) : List (List Nat) :=
  if (if d then s ≤ xr row q - xr row p else s ≤ xr row p - xr row q) ∧ (U.getD p []).length ≤ (V.getD q []).length then U.set p (p :: V.getD q []) else U
theorem upU_len (s : Int) (row : List Int) (d : Bool) (U V : List (List Nat)) (p q : Nat) : (upU s row d U V p q).length = U.length := by
  unfold upU
  by_cases hc : ((if d then s ≤ xr row q - xr row p else s ≤ xr row p - xr row q) ∧ (U.getD p []).length ≤ (V.getD q []).length)
  · rw [if_pos hc, List.length_set]
  · rw [if_neg hc]
theorem upU_ne (s : Int) (row : List Int) (d : Bool) (U V : List (List Nat)) (p q r : Nat) (h : p ≠ r) : (upU s row d U V p q).getD r [] = U.getD r [] := by
  rw [List.getD_eq_getElem?_getD, List.getD_eq_getElem?_getD]
  unfold upU
  by_cases hc : ((if d then s ≤ xr row q - xr row p else s ≤ xr row p - xr row q) ∧ (U.getD p []).length ≤ (V.getD q []).length)
  · rw [if_pos hc, List.getElem?_set_ne h]
  · rw [if_neg hc]
theorem getD_set_eq (U : List (List Nat)) (p : Nat) (l : List Nat) (h : p < U.length) : (U.set p l).getD p [] = l := by
  rw [List.getD_eq_getElem?_getD, List.getElem?_set_self h]; rfl
theorem tails_body (row : List Int) (s : Int) (U V : List (List Nat)) (p q : Nat) (o6 : Option S) (hU : U.length = row.length) (hV : V.length = row.length) (hp : p < row.length) (hq : q < row.length) (bU : (U.getD q []).length ≤ 1000) (bV : (V.getD q []).length ≤ 1000) (hpq : p ≠ q) :
    ∃ o6', b_tails_f0 (envU row s U V (some (.sh (.int (p : Int)))) (some (.sh (.int (q : Int)))) o6) = some (.nx (envU row s (upU s row true U V p q) (upU s row false V U p q) (some (.sh (.int (p : Int)))) (some (.sh (.int (q : Int)))) o6')) := by
  have big := size_big
  have ap := at_nat row p hp
  have aq := at_nat row q hq
  have i1 : 0 + 1 ≤ sizeLine := le_size (by decide)
  refine ⟨some (.sh (.int (xr row q - xr row p))), ?_⟩
  unfold b_tails_f0
  refine seqI (ρ' := envU row s U V (some (.sh (.int (p : Int)))) (some (.sh (.int (q : Int)))) (some (.sh (.int (xr row q - xr row p))))) ?_ ?_
  · unfold envU
    simp_arith [ap, aq]
  have go : ∀ (iU iV : Nat) (A B : List (List Nat)) (ρ : Ro), ρ[iU]? = some (some (.own (A.map L))) → ρ[iV]? = some (some (.own (B.map L))) → ρ[4]? = some (some (.sh (.int (p : Int)))) → ρ[5]? = some (some (.sh (.int (q : Int)))) → A.length = row.length → B.length = row.length → (B.getD q []).length ≤ 1000 →
      (mtest (m2 geD (mlen (aslst (mix (bvar iV) (mvar 5)))) (mlen (aslst (mix (bvar iU) (mvar 4))))) ρ = some (decide ((A.getD p []).length ≤ (B.getD q []).length))) ∧
      msetix iU (mvar 4) (mlst (mcat (sized (acons (mvar 4) anil)) (aslst (mix (bvar iV) (mvar 5))))) ρ = some (.nx (ρ.set iU (some (.own ((A.set p (p :: B.getD q [])).map L))))) := by
    intro iU iV A B ρ hA hB h4 h5 lA lB bB
    have eA : bvar iU ρ = some (A.map L) := by unfold bvar; rw [hA]
    have eB : bvar iV ρ = some (B.map L) := by unfold bvar; rw [hB]
    have e4 : mvar 4 ρ = some (.int (p : Int)) := by unfold mvar; rw [h4]
    have e5 : mvar 5 ρ = some (.int (q : Int)) := by unfold mvar; rw [h5]
    have fB : aslst (mix (bvar iV) (mvar 5)) ρ = some ((B.getD q []).map dN) := aslst_ev (mix_ev eB e5 (at_L B q (by omega)))
    have fA : aslst (mix (bvar iU) (mvar 4)) ρ = some ((A.getD p []).map dN) := aslst_ev (mix_ev eA e4 (at_L A p (by omega)))
    constructor
    · rw [tge_ev (mlen_ev fB) (mlen_ev fA)]
      congr 1
      apply decide_eq_decide.mpr
      rw [List.length_map, List.length_map]
      omega
    · have ev : mlst (mcat (sized (acons (mvar 4) anil)) (aslst (mix (bvar iV) (mvar 5)))) ρ = some (L (p :: B.getD q [])) := by
        rw [mlst_ev (mcat_ev (sized_ev (acons_ev e4 anil_ev) i1) fB (by rw [List.length_map, List.length_singleton]; omega))]
        rfl
      unfold msetix
      rw [ev, hA, e4]
      show ((ixN (A.map L).length (p : Int)).map fun j => Out.nx (ρ.set iU (some (.own ((A.map L).set j (L (p :: B.getD q []))))))) = _
      rw [List.length_map, ixN_nat _ _ (by omega)]
      show some (Out.nx _) = _
      rw [List.map_set]
  have t1 : ∀ A B o6, mtest (m2 geD (mvar 6) (mvar 1)) (envU row s A B o6 (some (.sh (.int (q : Int)))) (some (.sh (.int (xr row q - xr row p))))) = some (decide (s ≤ xr row q - xr row p)) := fun A B o6 => tge_ev rfl rfl
  have t2 : ∀ A B o6, mtest (m2 geD (m1 negD (mvar 6)) (mvar 1)) (envU row s A B o6 (some (.sh (.int (q : Int)))) (some (.sh (.int (xr row q - xr row p))))) = some (decide (s ≤ -(xr row q - xr row p))) := fun A B o6 => tge_ev rfl rfl
  obtain ⟨c1, c2⟩ := go 2 3 U V (envU row s U V (some (.sh (.int (p : Int)))) (some (.sh (.int (q : Int)))) (some (.sh (.int (xr row q - xr row p))))) rfl rfl rfl rfl hU hV bV
  refine seqI (ρ' := envU row s (upU s row true U V p q) V (some (.sh (.int (p : Int)))) (some (.sh (.int (q : Int)))) (some (.sh (.int (xr row q - xr row p))))) ?_ ?_
  · unfold mif
    rw [cand_ev (t1 _ _ _) c1]
    unfold upU
    by_cases h : s ≤ xr row q - xr row p ∧ (U.getD p []).length ≤ (V.getD q []).length
    · rw [if_pos (by simpa using h), decide_eq_true h.1, decide_eq_true h.2]
      exact c2
    · rw [if_neg (by simpa using h)]
      have : (decide (s ≤ xr row q - xr row p) && decide ((U.getD p []).length ≤ (V.getD q []).length)) = false := by
        rw [Bool.eq_false_iff]
        intro z
        rw [Bool.and_eq_true, decide_eq_true_eq, decide_eq_true_eq] at z
        exact h z
      rw [this]
      rfl
  · have hU' : (upU s row true U V p q).length = row.length := by rw [upU_len]; exact hU
    have gU : (upU s row true U V p q).getD q [] = U.getD q [] := upU_ne _ _ _ _ _ _ _ _ hpq
    obtain ⟨d1, d2⟩ := go 3 2 V (upU s row true U V p q) (envU row s (upU s row true U V p q) V (some (.sh (.int (p : Int)))) (some (.sh (.int (q : Int)))) (some (.sh (.int (xr row q - xr row p))))) rfl rfl rfl rfl hV hU' (by rw [gU]; exact bU)
    rw [gU] at d1 d2
    unfold mif
    rw [cand_ev (t2 _ _ _) d1]
    have ex : upU s row false V U p q = if s ≤ xr row p - xr row q ∧ (V.getD p []).length ≤ (U.getD q []).length then V.set p (p :: U.getD q []) else V := by
      unfold upU; simp
    rw [ex]
    by_cases h : s ≤ xr row p - xr row q ∧ (V.getD p []).length ≤ (U.getD q []).length
    · rw [if_pos h, decide_eq_true (show s ≤ -(xr row q - xr row p) by omega), decide_eq_true h.2]
      exact d2
    · rw [if_neg h]
      have : (decide (s ≤ -(xr row q - xr row p)) && decide ((V.getD p []).length ≤ (U.getD q []).length)) = false := by
        rw [Bool.eq_false_iff]
        intro z
        rw [Bool.and_eq_true, decide_eq_true_eq, decide_eq_true_eq] at z
        exact h ⟨by omega, z.2⟩
      rw [this]
      rfl
end

section
open PySem L2
noncomputable abbrev BT (row : List Int) (s : Int) (d : Bool) (p t : Nat) : List Nat → Prop := Best (From (xr row) row.length s d p t)
theorem BT.len {row : List Int} {s : Int} {d : Bool} {p t : Nat} {l : List Nat} (h : BT row s d p t l) : l.length ≤ row.length := by
  rcases h.1.2 with e | ⟨q, m, e, _⟩
  · rw [e] at h ⊢
    have := h.1.1.lt
    simp; omega
  · rw [e] at h ⊢
    have := h.1.1.len
    simp at this ⊢; omega
noncomputable def Done (row : List Int) (s : Int) (p : Nat) (U V : List (List Nat)) : Prop := ∀ q, p ≤ q → q < row.length → BT row s true q row.length (U.getD q []) ∧ BT row s false q row.length (V.getD q [])
noncomputable def Yet (p : Nat) (U V : List (List Nat)) : Prop := ∀ q, q < p → U.getD q [] = [q] ∧ V.getD q [] = [q]
theorem upU_at (s : Int) (row : List Int) (d : Bool) (U V : List (List Nat)) (p q : Nat) (hp : p < U.length) : (upU s row d U V p q).getD p [] = if far s d (xr row p) (xr row q) ∧ (U.getD p []).length ≤ (V.getD q []).length then p :: V.getD q [] else U.getD p [] := by
  unfold upU far
  by_cases hc : ((if d then s ≤ xr row q - xr row p else s ≤ xr row p - xr row q) ∧ (U.getD p []).length ≤ (V.getD q []).length)
  · rw [if_pos hc, if_pos hc, getD_set_eq _ _ _ hp]
  · rw [if_neg hc, if_neg hc]
theorem inner_step (row : List Int) (s : Int) (U V : List (List Nat)) (p k : Nat) (hU : U.length = row.length) (hV : V.length = row.length) (hk : p + 1 + k < row.length) (hd : Done row s (p + 1) U V)
    (h1 : BT row s true p (p + k) (U.getD p [])) (h2 : BT row s false p (p + k) (V.getD p [])) :
    BT row s true p (p + (k + 1)) ((upU s row true U V p (p + 1 + k)).getD p []) ∧ BT row s false p (p + (k + 1)) ((upU s row false V U p (p + 1 + k)).getD p []) := by
  obtain ⟨a, b⟩ := hd (p + 1 + k) (by omega) hk
  rw [upU_at _ _ _ _ _ _ _ (by omega), upU_at _ _ _ _ _ _ _ (by omega)]
  have e : p + (k + 1) = p + 1 + k := by omega
  rw [e]
  constructor
  · exact from_step (q := p + 1 + k) (by omega) (from_skip h1 (by omega)) b _
  · exact from_step (q := p + 1 + k) (by omega) (from_skip h2 (by omega)) a _
theorem inner_loop (row : List Int) (s : Int) (hr : row.length ≤ 300) (U V : List (List Nat)) (p : Nat) (hp : p < row.length) (hU : U.length = row.length) (hV : V.length = row.length) (hd : Done row s (p + 1) U V) (hy : Yet (p + 1) U V) (o5 o6 : Option S) (Q : Out → Prop)
    (hQ : ∀ U V o5 o6, U.length = row.length → V.length = row.length → Done row s p U V → Yet p U V → Q (.nx (envU row s U V (some (.sh (.int (p : Int)))) o5 o6))) :
    Run b_tails_f1 (envU row s U V (some (.sh (.int (p : Int)))) o5 o6) Q := by
  unfold b_tails_f1
  have k1 : okR ((p : Int) + 1) = true := okR_of (by omega) (by omega)
  have k2 : okR (row.length : Int) = true := okR_of (by omega) (by omega)
  have er : rangeD ((p : Int) + 1) ((row.length : Int) - ((p : Int) + 1)).toNat = (List.range (row.length - (p + 1))).map fun (j : Nat) => D.int ((p + 1 + j : Nat) : Int) := by
    rw [rangeD_map, show ((row.length : Int) - ((p : Int) + 1)).toNat = row.length - (p + 1) by omega]
    apply List.map_congr_left
    intro i _
    congr 1
  refine run_forN (row.length - (p + 1)) (f := fun (j : Nat) => D.int ((p + 1 + j : Nat) : Int)) (by unfold envU; simp_arith [List.length_map, rng2_ok k1 k2, er])
    (I := fun k ρ => ∃ U V o5 o6, U.length = row.length ∧ V.length = row.length ∧ Done row s (p + 1) U V ∧ Yet p U V ∧ BT row s true p (p + k) (U.getD p []) ∧ BT row s false p (p + k) (V.getD p []) ∧ ρ = envU row s U V (some (.sh (.int (p : Int)))) o5 o6) _
    ⟨U, V, o5, o6, hU, hV, hd, fun q hq => hy q (by omega), by rw [(hy p (by omega)).1]; exact from_one hp, by rw [(hy p (by omega)).2]; exact from_one hp, rfl⟩ ?_ ?_
  · rintro k ρ hk ⟨U, V, o5, o6, hU, hV, hd, hy, h1, h2, rfl⟩
    refine ⟨_, rfl, ?_⟩
    obtain ⟨a, b⟩ := hd (p + 1 + k) (by omega) (by omega)
    have la := a.len
    have lb := b.len
    obtain ⟨o6', e⟩ := tails_body row s U V p (p + 1 + k) o6 hU hV hp (by omega) (by omega) (by omega) (by omega)
    obtain ⟨n1, n2⟩ := inner_step row s U V p k hU hV (by omega) hd h1 h2
    refine ⟨_, e, upU s row true U V p (p + 1 + k), upU s row false V U p (p + 1 + k), _, _, by rw [upU_len]; exact hU, by rw [upU_len]; exact hV, ?_, ?_, n1, n2, rfl⟩
    · intro q h1 h2
      rw [upU_ne _ _ _ _ _ _ _ _ (by omega), upU_ne _ _ _ _ _ _ _ _ (by omega)]
      exact hd q h1 h2
    · intro q h1
      rw [upU_ne _ _ _ _ _ _ _ _ (by omega), upU_ne _ _ _ _ _ _ _ _ (by omega)]
      exact hy q h1
  · rintro ρ ⟨U, V, o5, o6, hU, hV, hd, hy, h1, h2, rfl⟩
    refine hQ U V o5 o6 hU hV (fun q h3 h4 => ?_) hy
    rcases Nat.lt_or_ge p q with z | z
    · exact hd q (by omega) h4
    · have : q = p := by omega
      subst this
      exact ⟨from_all h1 (by omega), from_all h2 (by omega)⟩
theorem rngD_ok {j : Int} (h : okR j = true) : rngD [.int j] = some (downD j.toNat) := by
  unfold rngD
  simp only [h, if_true]
theorem ones_ev (row : List Int) (hr : row.length ≤ 300) (ρ : Ro) (h0 : bvar 0 ρ = some (row.map .int)) : mcomp [none] (mlist rng1 (acons (mlen (bvar 0)) anil)) (.nm 0) cyes (mlst (sized (acons (mvar 0) anil))) ρ = some (((List.range row.length).map fun j => [j]).map L) := by
  have k2 : okR (row.length : Int) = true := okR_of (by omega) (by omega)
  have i1 : 0 + 1 ≤ sizeLine := le_size (by decide)
  have e1 : mlist rng1 (acons (mlen (bvar 0)) anil) ρ = some ((List.range row.length).map dN) := by
    unfold mlist
    rw [acons_ev (mlen_ev h0) anil_ev, Option.bind_some, List.length_map, rng1_ok k2, Int.toNat_natCast, rangeD_li, List.map_map]
    rfl
  unfold mcomp
  rw [e1]
  refine (compD_map (f := dN) (G := fun j => L [j]) (fun _ ρ => ∃ x, ρ = [x]) (by
    rintro d ds ρ ⟨x, rfl⟩
    exact ⟨[some (.sh (dN d))], rfl, rfl, by rw [mlst_ev (sized_ev (acons_ev (x := mvar 0) (d := dN d) rfl anil_ev) i1)]; rfl, _, rfl⟩) (List.range row.length) _ [] ⟨none, rfl⟩ (le_size (by simp; omega))).trans ?_
  rw [List.map_map]
  rfl
theorem tails_eq (row : List Int) (s : Int) (hr : row.length ≤ 300) : ∃ U V : List (List Nat), m_tails [.lst (row.map .int), .int s] = some (.sh (.tup [.lst (U.map L), .lst (V.map L)])) ∧ U.length = row.length ∧ V.length = row.length ∧ Done row s 0 U V := by
  suffices h : ∃ d, runB 7 b_tails [.lst (row.map .int), .int s] = some (.sh d) ∧ ∃ U V : List (List Nat), d = .tup [.lst (U.map L), .lst (V.map L)] ∧ U.length = row.length ∧ V.length = row.length ∧ Done row s 0 U V by
    obtain ⟨d, e, U, V, rfl, a, b, c⟩ := h
    exact ⟨U, V, e, a, b, c⟩
  suffices h : Run b_tails (startS 7 [.lst (row.map .int), .int s]) (fun o => ∃ U V : List (List Nat), o = .rt (.tup [.lst (U.map L), .lst (V.map L)]) ∧ U.length = row.length ∧ V.length = row.length ∧ Done row s 0 U V) by
    obtain ⟨o, e, U, V, rfl, r⟩ := h
    exact ⟨_, runB_rt e, U, V, rfl, r⟩
  unfold b_tails
  have k2 : okR (row.length : Int) = true := okR_of (by omega) (by omega)
  have i2 : 0 + 1 + 1 ≤ sizeLine := le_size (by decide)
  refine run_seq (ρ' := [some (.sh (.lst (row.map .int))), some (.sh (.int s)), some (.own (((List.range row.length).map fun j => [j]).map L)), none, none, none, none]) (by unfold msetF; rw [ones_ev row hr _ rfl]; rfl) ?_
  refine run_seq (ρ' := envU row s ((List.range row.length).map fun j => [j]) ((List.range row.length).map fun j => [j]) none none none) (by unfold msetF; rw [ones_ev row hr _ rfl]; rfl) ?_
  have ed : downD row.length = (List.range row.length).map fun (j : Nat) => D.int ((row.length : Int) - 1 - (j : Int)) := rfl
  have one : ∀ q, q < row.length → ((List.range row.length).map fun j => [j]).getD q [] = [q] := by
    intro q hq
    rw [List.getD_eq_getElem?_getD, List.getElem?_map, List.getElem?_range hq]; rfl
  refine run_mseq (run_forN row.length (f := fun (j : Nat) => D.int ((row.length : Int) - 1 - (j : Int))) ?_
    (I := fun j ρ => ∃ U V o4 o5 o6, U.length = row.length ∧ V.length = row.length ∧ Done row s (row.length - j) U V ∧ Yet (row.length - j) U V ∧ ρ = envU row s U V o4 o5 o6) _
    ⟨_, _, _, _, _, by simp, by simp, fun q h1 h2 => by omega, fun q h1 => ⟨one q (by omega), one q (by omega)⟩, rfl⟩ ?_ ?_)
  · unfold mlist
    rw [acons_ev (x := mlen (bvar 0)) (d := .int ((row.map D.int).length : Int)) (mlen_ev rfl) anil_ev, Option.bind_some, List.length_map, rngD_ok k2, Int.toNat_natCast, ed]
  · rintro j ρ hj ⟨U, V, o4, o5, o6, hU, hV, hd, hy, rfl⟩
    refine ⟨_, rfl, ?_⟩
    have e : (row.length : Int) - 1 - (j : Int) = ((row.length - 1 - j : Nat) : Int) := by omega
    rw [e]
    have e2 : row.length - 1 - j + 1 = row.length - j := by omega
    refine inner_loop row s hr U V (row.length - 1 - j) (by omega) hU hV (by rw [e2]; exact hd) (by rw [e2]; exact hy) o5 o6 _ fun U V o5 o6 hU hV hd hy => ?_
    rw [show row.length - 1 - j = row.length - (j + 1) by omega] at hd hy
    exact ⟨U, V, _, _, _, hU, hV, hd, hy, rfl⟩
  · rintro ρ ⟨U, V, o4, o5, o6, hU, hV, hd, hy, rfl⟩
    rw [Nat.sub_self] at hd
    unfold b_tails_r2
    refine run_freeze (ds := U.map L) rfl (run_freeze (ds := V.map L) rfl ⟨_, ?_, U, V, rfl, hU, hV, hd⟩)
    unfold envU
    simp_arith [i2, if_true]
theorem key_eq (l : List Nat) : m_longer_first [L l] = some (.sh (Ky l)) := by
  unfold m_longer_first b_longer_first
  have i2 : 0 + 1 + 1 ≤ sizeLine := le_size (by decide)
  refine runB_rt ?_
  unfold L
  simp_arith [i2, if_true, List.length_map]
  rfl
theorem mem_getD {U : List (List Nat)} {m : List Nat} (h : m ∈ U) : ∃ q, q < U.length ∧ m = U.getD q [] := by
  obtain ⟨q, hq, e⟩ := List.getElem_of_mem h
  exact ⟨q, hq, by rw [List.getD_eq_getElem?_getD, List.getElem?_eq_getElem hq, ← e]; rfl⟩
theorem getD_mem {U : List (List Nat)} {q : Nat} (h : q < U.length) : U.getD q [] ∈ U := by
  rw [List.getD_eq_getElem?_getD, List.getElem?_eq_getElem h]; exact List.getElem_mem h
theorem longest_eq (row : List Int) (s : Int) (hs : 1 ≤ s) (hr : row.length ≤ 300) : ∃ l, m_longest [.lst (row.map .int), .int s] = some (.sh (L l)) ∧ Best (Wv (xr row) row.length s) l := by
  obtain ⟨U, V, et, hU, hV, hd⟩ := tails_eq row s hr
  have i0 : 0 ≤ sizeLine := Nat.zero_le _
  have ek : ∀ l, shOf (m_longer_first [L l]) = some (Ky l) := fun l => by rw [key_eq]; rfl
  have hres : ∃ l, minD (fun d => shOf (m_longer_first [d])) ((U ++ V).map L) (.lst []) = some (L l) ∧ Best (Wv (xr row) row.length s) l := by
    cases hc : U ++ V with
    | nil =>
      have : row.length = 0 := by
        have := congrArg List.length hc
        rw [List.length_append, List.length_nil] at this
        omega
      exact ⟨[], rfl, best_none this⟩
    | cons b ls =>
      obtain ⟨r, e, h1, h2⟩ := min_list (mk := fun d => shOf (m_longer_first [d])) ek ls b
      refine ⟨r, ?_, ?_⟩
      · show (match shOf (m_longer_first [L b]) with | some kd => minF _ (ls.map L) (L b) kd | none => none) = _
        rw [ek b]
        exact e
      · rw [← hc] at h1 h2
        have all : ∀ m ∈ U ++ V, ∃ d q, BT row s d q row.length m := by
          intro m hm
          rcases List.mem_append.mp hm with h | h
          · obtain ⟨q, hq, rfl⟩ := mem_getD h
            exact ⟨true, q, (hd q (Nat.zero_le _) (by omega)).1⟩
          · obtain ⟨q, hq, rfl⟩ := mem_getD h
            exact ⟨false, q, (hd q (Nat.zero_le _) (by omega)).2⟩
        refine best_all h1 h2 (fun m hm => ?_) (fun d p hp => ?_) ?_
        · obtain ⟨d, q, h⟩ := all m hm
          exact .inr ⟨d, h.1.1⟩
        · cases d
          · exact ⟨_, List.mem_append_right _ (getD_mem (q := p) (by omega)), (hd p (Nat.zero_le _) hp).2⟩
          · exact ⟨_, List.mem_append_left _ (getD_mem (q := p) (by omega)), (hd p (Nat.zero_le _) hp).1⟩
        · obtain ⟨d, q, h⟩ := all r h1
          intro z
          rw [z] at h
          exact h.1.1
  obtain ⟨l, e, hb⟩ := hres
  refine ⟨l, ?_, hb⟩
  unfold m_longest b_longest
  refine runB_run ?_
  ((apply run_seq; focus (simp_arith [refuse_step_eq s hs]; rfl)))
  refine run_seq (ρ' := [some (.sh (.lst (row.map .int))), some (.sh (.int s)), some (.sh (.lst (U.map L))), some (.sh (.lst (V.map L)))]) ?_ ?_
  · unfold masg
    rw [mcall_sh (acons_ev (d := .lst (row.map .int)) rfl (acons_ev (d := .int s) rfl anil_ev)) et]
    rfl
  · refine ⟨_, ?_, rfl⟩
    have e1 : aslst (m2 addD (mvar 2) (mvar 3)) [some (.sh (.lst (row.map .int))), some (.sh (.int s)), some (.sh (.lst (U.map L))), some (.sh (.lst (V.map L)))] = some ((U ++ V).map L) := by
      have hz : (U.map L).length + (V.map L).length ≤ sizeLine := le_size (by simp; omega)
      refine aslst_ev ?_
      unfold m2
      show (if (U.map L).length + (V.map L).length ≤ sizeLine then some (D.lst (U.map L ++ V.map L)) else none) = _
      rw [if_pos hz, List.map_append]
    have e2 : mlst (sized anil) [some (.sh (.lst (row.map .int))), some (.sh (.int s)), some (.sh (.lst (U.map L))), some (.sh (.lst (V.map L)))] = some (.lst []) := mlst_ev (sized_ev anil_ev i0)
    unfold mret
    rw [mminK_ev e1 e2, e]
    rfl
theorem how_long_eq (row : List Int) (s : Int) (l : List Nat) (h : m_longest [.lst (row.map .int), .int s] = some (.sh (L l))) : m_how_long [.lst (row.map .int), .int s] = some (.sh (.int (l.length : Int))) := by
  unfold m_how_long b_how_long
  refine runB_rt ?_
  unfold mret
  rw [mlen_ev (aslst_ev (ds := l.map dN) (mcall_sh (acons_ev (d := .lst (row.map .int)) rfl (acons_ev (d := .int s) rfl anil_ev)) h)), List.length_map]
  rfl
end

end Lw

set_option Elab.async false
set_option linter.all false
set_option maxRecDepth 100000
set_option maxHeartbeats 4000000
namespace Lw
open PySem L2
theorem try_ok {names : List Str} {mb ms : MS} {xb : MXs} {i : Nat} {ρ : Ro} {o : Out} (h : mb ρ = some o) : mtry names mb xb i ms ρ = some o := by unfold mtry; rw [h]
theorem try_x {names : List Str} {mb ms : MS} {xb : MXs} {i : Nat} {ρ ρ1 ρ2 : Ro} {c : Str} (h : mb ρ = none) (hx : xb ρ = some (c, ρ1)) (hc : c ∈ names) (hs : ms (ρ1.set i (some (.sh (.exc c)))) = some (.nx ρ2)) : mtry names mb xb i ms ρ = some (.nx (ρ2.set i none)) := by
  unfold mtry
  rw [h, hx]
  dsimp only
  rw [if_pos hc, hs]
theorem mif_ev {c : MB} {x y : MS} {ρ : Ro} {b : Bool} (h : c ρ = some b) : mif c x y ρ = (if b then x else y) ρ := by unfold mif; rw [h]; cases b <;> rfl
theorem xif_ev {c : MB} {x y : MXs} {ρ : Ro} {b : Bool} (h : c ρ = some b) : xif c x y ρ = (if b then x else y) ρ := by unfold xif; rw [h]; cases b <;> rfl
theorem mexpr_ev {x : ME} {ρ : Ro} {d : D} (h : x ρ = some d) : mexpr x ρ = some (.nx ρ) := by unfold mexpr; rw [h]; rfl
theorem mexpr_no {x : ME} {ρ : Ro} (h : x ρ = none) : mexpr x ρ = none := by unfold mexpr; rw [h]; rfl
theorem mcall_no {f : MF} {m : ML} {ρ : Ro} {ds : List D} (h : m ρ = some ds) (h2 : f ds = none) : mcall f m ρ = none := by unfold mcall; rw [h]; show (match f ds with | some (.sh d) => some d | some (.fr es) => some (.lst es) | some (.pr d es) => some (.tup [d, .lst es]) | none => none) = _; rw [h2]
theorem xcall_ev {x : MFX} {m : ML} {ρ : Ro} {ds : List D} {c : Str} (h : m ρ = some ds) (h2 : x ds = some c) : xcall x m ρ = some c := by unfold xcall; rw [h]; exact h2
theorem xE_ev {x : MXe} {ρ : Ro} {c : Str} (h : x ρ = some c) : xE x ρ = some (c, ρ) := by unfold xE; rw [h]; rfl
theorem runX_ev {n : Nat} {x : MXs} {ds : List D} {c : Str} {ρ : Ro} (h : x (startS n ds) = some (c, ρ)) : runX n x ds = some c := by unfold runX; rw [h]; rfl
theorem xraise_ev {c : Str} {m : ML} {ρ : Ro} {ds : List D} (h : m ρ = some ds) : xraise c m ρ = some (c, ρ) := by unfold xraise; rw [h]; rfl
theorem mseq_no {x y : MS} {ρ : Ro} (h : x ρ = none) : mseq x y ρ = none := by unfold mseq; rw [h]
theorem runB_no {n : Nat} {m : MS} {ds : List D} (h : m (startS n ds) = none) : runB n m ds = none := by unfold runB; rw [h]
theorem misX_ev {tab : List (Str × Bool)} {m : ME} {ρ : Ro} {c : Str} {k : Bool} (h : m ρ = some (.exc c)) (h2 : tab.lookup c = some k) : misX tab m ρ = some (.bl k) := by unfold misX; rw [h]; simp only [h2]; rfl
theorem mret_no {x : ME} {ρ : Ro} (h : x ρ = none) : mret x ρ = none := by unfold mret; rw [h]; rfl
theorem tI_ev {x : ME} {ρ : Ro} {i k : Int} (h : x ρ = some (.int i)) : mtest (m2 eqSD x (mc (.int k))) ρ = some (i == k) := by unfold mtest m2 mc; rw [h]; rfl
theorem tLt_ev {x y : ME} {ρ : Ro} {i k : Int} (h : x ρ = some (.int i)) (h2 : y ρ = some (.int k)) : mtest (m2 ltD x y) ρ = some (decide (i < k)) := by unfold mtest m2; rw [h, h2]; rfl
end Lw

set_option Elab.async false
set_option linter.all false
set_option maxRecDepth 100000
set_option maxHeartbeats 4000000
namespace Lw
open PySem L2
noncomputable abbrev RI (r : List Int) : D := .lst (r.map .int)
theorem refuse_no (s : Int) (h : s < 1) : m_refuse_step [.int s] = none := by
  unfold m_refuse_step b_refuse_step
  refine runB_no ?_
  rw [mif_ev (tLt_ev (i := s) (k := 1) rfl rfl), decide_eq_true h]; rfl
theorem refuse_x (s : Int) (h : s < 1) : xm_refuse_step [.int s] = some ("NoStep" : Str) := by
  unfold xm_refuse_step bx_refuse_step
  refine runX_ev (ρ := startS 1 [.int s]) ?_
  rw [xif_ev (tLt_ev (i := s) (k := 1) rfl rfl), decide_eq_true h]
  exact xraise_ev (acons_ev rfl anil_ev)
section
variable (row places : List Int) (s : Int) (h : s < 1) (d1 d2 : D)
include h
theorem first_no (n : Nat) (y : MS) (ρ : Ro) (h1 : mvar 1 ρ = some (.int s)) : mseq (mexpr (mcall m_refuse_step (acons (mvar 1) anil))) y ρ = none :=
  mseq_no (mexpr_no (mcall_no (acons_ev h1 anil_ev) (refuse_no s h)))
theorem first_x (ρ : Ro) (h1 : mvar 1 ρ = some (.int s)) : xE (xcall xm_refuse_step (acons (mvar 1) anil)) ρ = some (("NoStep" : Str), ρ) :=
  xE_ev (xcall_ev (acons_ev h1 anil_ev) (refuse_x s h))
theorem are_wavy_no : m_are_wavy [d1, .int s, d2] = none := by unfold m_are_wavy b_are_wavy; exact runB_no (first_no s h 0 _ _ rfl)
theorem are_wavy_x : xm_are_wavy [d1, .int s, d2] = some ("NoStep" : Str) := by unfold xm_are_wavy bx_are_wavy; exact runX_ev (first_x s h _ rfl)
theorem longest_no : m_longest [d1, .int s] = none := by unfold m_longest b_longest; exact runB_no (first_no s h 0 _ _ rfl)
theorem longest_x : xm_longest [d1, .int s] = some ("NoStep" : Str) := by unfold xm_longest bx_longest; exact runX_ev (first_x s h _ rfl)
theorem how_long_no : m_how_long [d1, .int s] = none := by
  unfold m_how_long b_how_long
  refine runB_no (mret_no ?_)
  unfold mlen aslst
  rw [mcall_no (acons_ev (d := d1) rfl (acons_ev (d := .int s) rfl anil_ev)) (longest_no s h d1)]; rfl
theorem how_long_x : xm_how_long [d1, .int s] = some ("NoStep" : Str) := by
  unfold xm_how_long bx_how_long
  exact runX_ev (xE_ev (xcall_ev (acons_ev (d := d1) rfl (acons_ev (d := .int s) rfl anil_ev)) (longest_x s h d1)))
theorem pieces_of_no : m_pieces_of [d1, .int s] = none := by unfold m_pieces_of b_pieces_of; exact runB_no (first_no s h 0 _ _ rfl)
theorem pieces_of_x : xm_pieces_of [d1, .int s] = some ("NoStep" : Str) := by unfold xm_pieces_of bx_pieces_of; exact runX_ev (first_x s h _ rfl)
theorem pieces_show_none : m_pieces_show [d1, .int s, d2] = none := by unfold m_pieces_show b_pieces_show; exact runB_no (first_no s h 0 _ _ rfl)
theorem pieces_show_x : xm_pieces_show [d1, .int s, d2] = some ("NoStep" : Str) := by unfold xm_pieces_show bx_pieces_show; exact runX_ev (first_x s h _ rfl)
end
theorem pieces_show_all (row : List Int) (s : Int) (hs : 1 ≤ s) (hr : row.length ≤ 1000) (w : Str) (cuts : List Int) (hl : cuts.length ≤ 1000) : ∃ b, m_pieces_show [RI row, .int s, .tup [.str w, RI cuts]] = some (.sh (.bl b)) := by
  have both : ∀ up : Bool, ∃ b, m_pieces_show [RI row, .int s, .tup [.str (kd up), RI cuts]] = some (.sh (.bl b)) := fun up => by
    cases hc : (pok row.length 0 cuts && !(cuts.any fun y => y == 0)) with
    | false => exact ⟨_, pieces_show_no row s hs up cuts hc⟩
    | true =>
      obtain ⟨cs, rfl, hcs⟩ := (cuts_ok row.length cuts).mp hc
      exact ⟨_, pieces_show_ok row s hs hr up cs hcs (by simpa using hl)⟩
  by_cases h1 : w = "up"
  · subst h1; exact both true
  · by_cases h2 : w = "down"
    · subst h2; exact both false
    · exact ⟨_, pieces_show_bad row s hs w cuts h1 h2⟩
noncomputable abbrev flagsD : List D := [.bl true, .bl false, .bl false, .bl false, .bl false, .bl false, .bl false, .bl false]
theorem flags_eq : m_law_flags [.exc "NoStep"] = some (.fr flagsD) := by
  unfold m_law_flags b_law_flags
  have i4 : 0 + 1 + 1 + 1 + 1 ≤ sizeLine := le_size (by decide)
  refine runB_rf ?_
  have t : ∀ {ρ : Ro}, mvar 0 ρ = some (.exc "NoStep") → misX [("NoStep", true)] (mvar 0) ρ = some (.bl true) := fun h => misX_ev h rfl
  have f : ∀ {ρ : Ro}, mvar 0 ρ = some (.exc "NoStep") → misX [("NoStep", false)] (mvar 0) ρ = some (.bl false) := fun h => misX_ev h rfl
  refine seqI (ρ' := [some (.sh (.exc "NoStep")), some (.sh (.lst [.bl true, .bl false, .bl false, .bl false]))]) ((mset_ev (mlst_ev (sized_ev (acons_ev (t rfl) (acons_ev (f rfl) (acons_ev (f rfl) (acons_ev (f rfl) anil_ev)))) (le_size (by decide))))).trans rfl) ?_
  refine seqI (ρ' := [some (.sh (.exc "NoStep")), some (.sh (.lst [.bl true, .bl false, .bl false, .bl false, .bl false, .bl false, .bl false]))]) ((mset_ev (mlst_ev (mcat_ev (ds := [.bl true, .bl false, .bl false, .bl false]) (es := [.bl false, .bl false, .bl false]) rfl (sized_ev (acons_ev (f rfl) (acons_ev (f rfl) (acons_ev (f rfl) anil_ev))) (le_size (by decide))) (le_size (by decide))))).trans rfl) ?_
  have n1 : ∀ {ρ : Ro}, mvar 0 ρ = some (.exc "NoStep") → m1 notD (misX [("NoStep", true)] (mvar 0)) ρ = some (.bl false) := fun h => by unfold m1; rw [t h]; rfl
  unfold mretF
  rw [mcat_ev (ds := [.bl true, .bl false, .bl false, .bl false, .bl false, .bl false, .bl false]) (es := [.bl false]) rfl (sized_ev (acons_ev (n1 rfl) anil_ev) (le_size (by decide))) (le_size (by decide))]
  rfl
end Lw

set_option Elab.async false
set_option linter.all false
set_option maxRecDepth 100000
set_option maxHeartbeats 4000000
namespace Lw
open PySem L2
noncomputable abbrev envX (d : Int) (row places : List Int) (s : Int) (fl : List D) (o : Option S) : Ro := [some (.sh (.int d)), some (.sh (RI row)), some (.sh (.int s)), some (.sh (RI places)), some (.sh (.lst fl)), some (.sh (.lst [RI row, RI places])), o]
theorem chainM (i : Int) (row places : List Int) (s : Int) (A B C E F : MS) : mif (mtest (m2 eqSD (mvar 0) (mc (.int 0)))) A (mif (mtest (m2 eqSD (mvar 0) (mc (.int 1)))) B (mif (mtest (m2 eqSD (mvar 0) (mc (.int 2)))) C (mif (mtest (m2 eqSD (mvar 0) (mc (.int 3)))) E F))) (envX i row places s [] none)
    = (if i == 0 then A else if i == 1 then B else if i == 2 then C else if i == 3 then E else F) (envX i row places s [] none) := by
  rw [mif_ev (tI_ev (i := i) rfl)]
  cases i == 0 with
  | true => rfl
  | false =>
    show mif _ _ _ _ = _
    rw [mif_ev (tI_ev (i := i) rfl)]
    cases i == 1 with
    | true => rfl
    | false =>
      show mif _ _ _ _ = _
      rw [mif_ev (tI_ev (i := i) rfl)]
      cases i == 2 with
      | true => rfl
      | false =>
        show mif _ _ _ _ = _
        rw [mif_ev (tI_ev (i := i) rfl)]
        cases i == 3 <;> rfl
theorem chainX (i : Int) (row places : List Int) (s : Int) (A B C E F : MXs) : xif (mtest (m2 eqSD (mvar 0) (mc (.int 0)))) A (xif (mtest (m2 eqSD (mvar 0) (mc (.int 1)))) B (xif (mtest (m2 eqSD (mvar 0) (mc (.int 2)))) C (xif (mtest (m2 eqSD (mvar 0) (mc (.int 3)))) E F))) (envX i row places s [] none)
    = (if i == 0 then A else if i == 1 then B else if i == 2 then C else if i == 3 then E else F) (envX i row places s [] none) := by
  rw [xif_ev (tI_ev (i := i) rfl)]
  cases i == 0 with
  | true => rfl
  | false =>
    show xif _ _ _ _ = _
    rw [xif_ev (tI_ev (i := i) rfl)]
    cases i == 1 with
    | true => rfl
    | false =>
      show xif _ _ _ _ = _
      rw [xif_ev (tI_ev (i := i) rfl)]
      cases i == 2 with
      | true => rfl
      | false =>
        show xif _ _ _ _ = _
        rw [xif_ev (tI_ev (i := i) rfl)]
        cases i == 3 <;> rfl
section
variable (i : Int) (row places : List Int) (s : Int)
theorem a0 : mix (bvar 5) (mc (.int 0)) (envX i row places s [] none) = some (RI row) := mix_ev (ds := [RI row, RI places]) (k := 0) rfl rfl rfl
theorem a1 : mix (bvar 5) (mc (.int 1)) (envX i row places s [] none) = some (RI places) := mix_ev (ds := [RI row, RI places]) (k := 1) rfl rfl rfl
theorem a2 : mvar 2 (envX i row places s [] none) = some (.int s) := rfl
theorem aw {j : Nat} (hj : j < 3) (hi : i = 4 + (j : Int)) : ∃ w : Str, mix (sized (acons (mc (.str "up")) (acons (mc (.str "down")) (acons (mc (.str "x")) anil)))) (m2 subD (mvar 0) (mc (.int 4))) (envX i row places s [] none) = some (.str w) := by
  have e : m2 subD (mvar 0) (mc (.int 4)) (envX i row places s [] none) = some (.int (j : Int)) := by
    unfold m2
    show some (D.int (i - 4)) = _
    rw [hi]; congr 2; omega
  have q : sized (acons (mc (.str "up")) (acons (mc (.str "down")) (acons (mc (.str "x")) anil))) (envX i row places s [] none) = some [.str "up", .str "down", .str "x"] := sized_ev (acons_ev rfl (acons_ev rfl (acons_ev rfl anil_ev))) (le_size (by simp))
  match j, hj with
  | 0, _ => exact ⟨"up", mix_ev q e rfl⟩
  | 1, _ => exact ⟨"down", mix_ev q e rfl⟩
  | 2, _ => exact ⟨"x", mix_ev q e rfl⟩
theorem tailX (fl : List D) : (mseq (mif (mtest (meqB true (bvar 5) (sized (acons (mvar 1) (acons (mvar 3) anil))))) (mretF (sized (acons (mc (.str "changed")) anil))) mnext) (mretO 4)) (envX i row places s fl none) = some (.rt (.lst fl)) := by
  refine seqI (ρ' := envX i row places s fl none) ?_ rfl
  have c : mtest (meqB true (bvar 5) (sized (acons (mvar 1) (acons (mvar 3) anil)))) (envX i row places s fl none) = some false := by
    unfold mtest meqB
    rw [sized_ev (ds := [RI row, RI places]) (acons_ev rfl (acons_ev rfl anil_ev)) (le_size (by simp))]
    show (match eqFD true (.lst [RI row, RI places]) (.lst [RI row, RI places]) with | some (.bl b) => some b | _ => none) = _
    rw [eq_pair row places]
  rw [mif_ev c]; rfl
theorem refused_bad (d : Nat) (hd : d < 7) (h : s < 1) : m_law_refused [.int (d : Int), RI row, .int s, RI places] = some (.sh (.lst flagsD)) := by
  unfold m_law_refused b_law_refused
  refine runB_rt ?_
  refine seqI (ρ' := [some (.sh (.int d)), some (.sh (RI row)), some (.sh (.int s)), some (.sh (RI places)), some (.sh (.lst [])), none, none]) ((mset_ev (mlst_ev (sized_ev anil_ev (le_size (by simp))))).trans rfl) ?_
  refine seqI (ρ' := envX d row places s [] none) ((mset_ev (mlst_ev (sized_ev (acons_ev (mlst_ev (ds := row.map .int) rfl) (acons_ev (mlst_ev (ds := places.map .int) rfl) anil_ev)) (le_size (by simp))))).trans rfl) ?_
  refine seqI (ρ' := envX d row places s flagsD none) ((try_x (c := ("NoStep" : Str)) (ρ1 := envX d row places s [] none) (ρ2 := envX d row places s flagsD (some (.sh (.exc "NoStep")))) ?_ ?_ (by simp) ?_).trans rfl) (tailX d row places s flagsD)
  · rw [chainM]
    match d, hd with
    | 0, _ => exact mexpr_no (mcall_no (acons_ev (a0 _ _ _ _) (acons_ev rfl (acons_ev (a1 _ _ _ _) anil_ev))) (are_wavy_no s h _ _))
    | 1, _ => exact mexpr_no (mcall_no (acons_ev (a0 _ _ _ _) (acons_ev rfl anil_ev)) (longest_no s h _))
    | 2, _ => exact mexpr_no (mcall_no (acons_ev (a0 _ _ _ _) (acons_ev rfl anil_ev)) (how_long_no s h _))
    | 3, _ => exact mexpr_no (mcall_no (acons_ev (a0 _ _ _ _) (acons_ev rfl anil_ev)) (pieces_of_no s h _))
    | 4, _ =>
      obtain ⟨w, ew⟩ := aw 4 row places s (j := 0) (by decide) rfl
      exact mexpr_no (mcall_no (acons_ev (a0 _ _ _ _) (acons_ev rfl (acons_ev (mtup_ev (acons_ev ew (acons_ev (a1 _ _ _ _) anil_ev)) (le_size (by simp))) anil_ev))) (pieces_show_none s h _ _))
    | 5, _ =>
      obtain ⟨w, ew⟩ := aw 5 row places s (j := 1) (by decide) rfl
      exact mexpr_no (mcall_no (acons_ev (a0 _ _ _ _) (acons_ev rfl (acons_ev (mtup_ev (acons_ev ew (acons_ev (a1 _ _ _ _) anil_ev)) (le_size (by simp))) anil_ev))) (pieces_show_none s h _ _))
    | 6, _ =>
      obtain ⟨w, ew⟩ := aw 6 row places s (j := 2) (by decide) rfl
      exact mexpr_no (mcall_no (acons_ev (a0 _ _ _ _) (acons_ev rfl (acons_ev (mtup_ev (acons_ev ew (acons_ev (a1 _ _ _ _) anil_ev)) (le_size (by simp))) anil_ev))) (pieces_show_none s h _ _))
  · rw [chainX]
    match d, hd with
    | 0, _ => exact xE_ev (xcall_ev (acons_ev (a0 _ _ _ _) (acons_ev rfl (acons_ev (a1 _ _ _ _) anil_ev))) (are_wavy_x s h _ _))
    | 1, _ => exact xE_ev (xcall_ev (acons_ev (a0 _ _ _ _) (acons_ev rfl anil_ev)) (longest_x s h _))
    | 2, _ => exact xE_ev (xcall_ev (acons_ev (a0 _ _ _ _) (acons_ev rfl anil_ev)) (how_long_x s h _))
    | 3, _ => exact xE_ev (xcall_ev (acons_ev (a0 _ _ _ _) (acons_ev rfl anil_ev)) (pieces_of_x s h _))
    | 4, _ =>
      obtain ⟨w, ew⟩ := aw 4 row places s (j := 0) (by decide) rfl
      exact xE_ev (xcall_ev (acons_ev (a0 _ _ _ _) (acons_ev rfl (acons_ev (mtup_ev (acons_ev ew (acons_ev (a1 _ _ _ _) anil_ev)) (le_size (by simp))) anil_ev))) (pieces_show_x s h _ _))
    | 5, _ =>
      obtain ⟨w, ew⟩ := aw 5 row places s (j := 1) (by decide) rfl
      exact xE_ev (xcall_ev (acons_ev (a0 _ _ _ _) (acons_ev rfl (acons_ev (mtup_ev (acons_ev ew (acons_ev (a1 _ _ _ _) anil_ev)) (le_size (by simp))) anil_ev))) (pieces_show_x s h _ _))
    | 6, _ =>
      obtain ⟨w, ew⟩ := aw 6 row places s (j := 2) (by decide) rfl
      exact xE_ev (xcall_ev (acons_ev (a0 _ _ _ _) (acons_ev rfl (acons_ev (mtup_ev (acons_ev ew (acons_ev (a1 _ _ _ _) anil_ev)) (le_size (by simp))) anil_ev))) (pieces_show_x s h _ _))
  · exact (mset_ev (mcall_fr (acons_ev (d := .exc "NoStep") rfl anil_ev) flags_eq)).trans rfl
theorem refused_good (d : Nat) (hd : d < 7) (h : 1 ≤ s) (hr : row.length ≤ 300) (hp : places.length ≤ 1000) : m_law_refused [.int (d : Int), RI row, .int s, RI places] = some (.sh (.lst [])) := by
  have big := size_big
  unfold m_law_refused b_law_refused
  refine runB_rt ?_
  refine seqI (ρ' := [some (.sh (.int d)), some (.sh (RI row)), some (.sh (.int s)), some (.sh (RI places)), some (.sh (.lst [])), none, none]) ((mset_ev (mlst_ev (sized_ev anil_ev (le_size (by simp))))).trans rfl) ?_
  refine seqI (ρ' := envX d row places s [] none) ((mset_ev (mlst_ev (sized_ev (acons_ev (mlst_ev (ds := row.map .int) rfl) (acons_ev (mlst_ev (ds := places.map .int) rfl) anil_ev)) (le_size (by simp))))).trans rfl) ?_
  refine seqI (ρ' := envX d row places s [] none) (try_ok ?_) (tailX d row places s [])
  have pc : ∀ {w : Str}, mix (sized (acons (mc (.str "up")) (acons (mc (.str "down")) (acons (mc (.str "x")) anil)))) (m2 subD (mvar 0) (mc (.int 4))) (envX d row places s [] none) = some (.str w) → (mexpr (mcall m_pieces_show (acons (mix (bvar 5) (mc (.int 0))) (acons (mvar 2) (acons (mtup (acons (mix (sized (acons (mc (.str "up")) (acons (mc (.str "down")) (acons (mc (.str "x")) anil)))) (m2 subD (mvar 0) (mc (.int 4)))) (acons (mix (bvar 5) (mc (.int 1))) anil))) anil))))) (envX d row places s [] none) = some (.nx (envX d row places s [] none)) := fun {w} ew => by
    obtain ⟨b, eb⟩ := pieces_show_all row s h (by omega) w places hp
    exact mexpr_ev (mcall_sh (acons_ev (a0 _ _ _ _) (acons_ev rfl (acons_ev (mtup_ev (acons_ev ew (acons_ev (a1 _ _ _ _) anil_ev)) (le_size (by simp))) anil_ev))) eb)
  rw [chainM]
  match d, hd with
  | 0, _ => exact mexpr_ev (mcall_sh (acons_ev (a0 _ _ _ _) (acons_ev rfl (acons_ev (a1 _ _ _ _) anil_ev))) (are_wavy_eq row places s h (by omega)))
  | 1, _ =>
    obtain ⟨l, el, _⟩ := longest_eq row s h hr
    exact mexpr_ev (mcall_sh (acons_ev (a0 _ _ _ _) (acons_ev rfl anil_ev)) el)
  | 2, _ =>
    obtain ⟨l, el, _⟩ := longest_eq row s h hr
    exact mexpr_ev (mcall_sh (acons_ev (a0 _ _ _ _) (acons_ev rfl anil_ev)) (how_long_eq row s l el))
  | 3, _ => exact mexpr_ev (mcall_sh (acons_ev (a0 _ _ _ _) (acons_ev rfl anil_ev)) (pieces_of_eq row s h hr))
  | 4, _ =>
    obtain ⟨w, ew⟩ := aw 4 row places s (j := 0) (by decide) rfl
    exact pc ew
  | 5, _ =>
    obtain ⟨w, ew⟩ := aw 5 row places s (j := 1) (by decide) rfl
    exact pc ew
  | 6, _ =>
    obtain ⟨w, ew⟩ := aw 6 row places s (j := 2) (by decide) rfl
    exact pc ew
end
end Lw

set_option Elab.async false
set_option linter.all false
set_option maxRecDepth 100000
set_option maxHeartbeats 4000000
namespace Lw
open PySem L2
theorem mlistE {f : List D → Option (List D)} {m : ML} {ρ : Ro} {ds gs : List D} (h : m ρ = some ds) (h2 : f ds = some gs) : mlist f m ρ = some gs := by unfold mlist; rw [h]; exact h2
theorem rng_ev {n : Nat} (h : n ≤ 1000) (ρ : Ro) : mlist rng1 (acons (mc (.int (n : Int))) anil) ρ = some ((List.range n).map fun (i : Nat) => D.int (0 + (i : Int))) := by
  have e := rng1_ok (j := (n : Int)) (okR_of (by omega) (by omega))
  rw [Int.toNat_natCast, rangeD_map] at e
  exact mlistE (acons_ev (d := .int (n : Int)) rfl anil_ev) e
theorem due_eq (ρ : Ro) : mcomp [none] (mlist rng1 (acons (mc (.int 8)) anil)) (.nm 0) cyes (m2 eqSD (mvar 0) (mc (.int 0))) ρ = some flagsD := by
  have e : mlist rng1 (acons (mc (.int 8)) anil) ρ = some ((List.range 8).map fun (i : Nat) => D.int (0 + (i : Int))) := rng_ev (n := 8) (by decide) ρ
  unfold mcomp
  rw [e]
  show compD (.nm 0) cyes (m2 eqSD (mvar 0) (mc (.int 0))) ((List.range 8).map fun (i : Nat) => D.int (0 + (i : Int))) [none] [] = _
  rw [compD_map (G := fun (i : Nat) => D.bl ((0 + (i : Int)) == 0)) (fun _ ρ1 => ∃ o, ρ1 = [o]) (fun d ds ρ1 ⟨o, ho⟩ => ⟨[some (.sh (.int (0 + (d : Int))))], by rw [ho]; rfl, rfl, by unfold m2; rfl, _, rfl⟩) (List.range 8) _ [] ⟨none, rfl⟩ (le_size (by simp))]
  rfl
noncomputable abbrev envL (scr : D) (c : Int) (row : List Int) (s : Int) (places : List Int) (o5 o6 o7 : Option S) : Ro := [some (.sh scr), some (.sh (.int c)), some (.sh (RI row)), some (.sh (.int s)), some (.sh (RI places)), o5, o6, o7]
section
variable (scr : D) (c : Int) (row places : List Int) (s : Int)
theorem f0_ok (n : Int) (hn : n < 1) (sm : List Int) (d : Nat) (hd : d < 7) : b_law_f0 (envL scr c row s places (some (.sh (.int n))) (some (.sh (RI sm))) (some (.sh (.int (d : Int))))) = some (.nx (envL scr c row s places (some (.sh (.int n))) (some (.sh (RI sm))) (some (.sh (.int (d : Int)))))) := by
  unfold b_law_f0
  have c1 : mtest (meqB true (aslst (mcall m_law_refused (acons (mvar 7) (acons (mvar 2) (acons (mvar 5) (acons (mvar 6) anil)))))) (mcomp [none] (mlist rng1 (acons (mc (.int 8)) anil)) (.nm 0) cyes (m2 eqSD (mvar 0) (mc (.int 0))))) (envL scr c row s places (some (.sh (.int n))) (some (.sh (RI sm))) (some (.sh (.int (d : Int))))) = some false := by
    unfold mtest meqB
    rw [due_eq, aslst_ev (mcall_sh (acons_ev (d := .int (d : Int)) rfl (acons_ev (d := RI row) rfl (acons_ev (d := .int n) rfl (acons_ev (d := RI sm) rfl anil_ev)))) (refused_bad row sm n d hd hn))]
    rfl
  rw [mif_ev c1]; rfl
theorem f1_ok (n : Int) (hn : n < 1) (sm : List Int) (o7 : Option S) : Run b_law_f1 (envL scr c row s places (some (.sh (.int n))) (some (.sh (RI sm))) o7) fun o => ∃ o7, o = .nx (envL scr c row s places (some (.sh (.int n))) (some (.sh (RI sm))) o7) := by
  unfold b_law_f1
  refine run_for (List.range 7) (f := fun (i : Nat) => D.int (0 + (i : Int))) (rng_ev (n := 7) (by decide) _) (I := fun ds ρ => (∀ d ∈ ds, d < 7) ∧ ∃ o7, ρ = envL scr c row s places (some (.sh (.int n))) (some (.sh (RI sm))) o7) _ ⟨fun d hd => by simpa using hd, _, rfl⟩ ?_ ?_
  · rintro d ds ρ ⟨hd, o, rfl⟩
    refine ⟨envL scr c row s places (some (.sh (.int n))) (some (.sh (RI sm))) (some (.sh (.int (d : Int)))), by rw [Int.zero_add]; rfl, ?_⟩
    exact ⟨_, f0_ok scr c row places s n hn sm d (hd d (by simp)), ⟨fun e he => hd e (by simp [he]), _, rfl⟩⟩
  · rintro ρ ⟨_, o, rfl⟩
    exact ⟨_, rfl⟩
theorem f2_ok (n : Int) (hn : n < 1) (o6 o7 : Option S) : Run b_law_f2 (envL scr c row s places (some (.sh (.int n))) o6 o7) fun o => ∃ o6 o7, o = .nx (envL scr c row s places (some (.sh (.int n))) o6 o7) := by
  unfold b_law_f2
  have hi : aslst (mlst (sized (acons (mvar 4) (acons (mlst (mrev (bvar 4) (osome (m1 negD (mc (.int 1)))))) (acons (mlst (sized (acons (mlen (bvar 2)) anil))) (acons (mlst (sized (acons (m1 negD (mc (.int 1))) anil))) (acons (mlst (sized anil)) anil))))))) (envL scr c row s places (some (.sh (.int n))) o6 o7) = some ([places, places.reverse, [(row.length : Int)], [-1], []].map RI) := by
    refine aslst_ev (mlst_ev (sized_ev (acons_ev (d := RI places) rfl (acons_ev (d := RI places.reverse) (mlst_ev ?_) (acons_ev (d := RI [(row.length : Int)]) (mlst_ev (sized_ev (acons_ev ?_ anil_ev) (le_size (by simp)))) (acons_ev (d := RI [-1]) (mlst_ev (sized_ev (acons_ev ?_ anil_ev) (le_size (by simp)))) (acons_ev (d := RI []) (mlst_ev (sized_ev anil_ev (le_size (by simp)))) anil_ev))))) (le_size (by simp))))
    · unfold mrev
      show some (places.map D.int).reverse = _
      rw [List.map_reverse]
    · rw [mlen_ev (ds := row.map .int) rfl, List.length_map]
    · unfold m1; rfl
  refine run_for [places, places.reverse, [(row.length : Int)], [-1], []] (f := RI) hi (I := fun _ ρ => ∃ o6 o7, ρ = envL scr c row s places (some (.sh (.int n))) o6 o7) _ ⟨_, _, rfl⟩ ?_ ?_
  · rintro d ds ρ ⟨p6, p7, rfl⟩
    refine ⟨envL scr c row s places (some (.sh (.int n))) (some (.sh (RI d))) p7, rfl, ?_⟩
    obtain ⟨o, e, p7', rfl⟩ := f1_ok scr c row places s n hn d p7
    exact ⟨_, e, _, _, rfl⟩
  · rintro ρ ⟨p6, p7, rfl⟩
    exact ⟨_, _, rfl⟩
theorem good_eq (hs : 1 ≤ s) (hr : row.length ≤ 300) (hp : places.length ≤ 1000) (o5 o6 o7 : Option S) : mcomp [none, some 2, some 3, some 4] (mlist rng1 (acons (mc (.int 7)) anil)) (.nm 0) (mtest (meqB true (aslst (mcall m_law_refused (acons (mvar 0) (acons (mvar 1) (acons (mvar 2) (acons (mvar 3) anil)))))) (sized anil))) (mvar 0) (envL scr c row s places o5 o6 o7) = some [] := by
  unfold mcomp
  rw [show mlist rng1 (acons (mc (.int 7)) anil) (envL scr c row s places o5 o6 o7) = some ((List.range 7).map fun (i : Nat) => D.int (0 + (i : Int))) from rng_ev (n := 7) (by decide) _]
  show compD (.nm 0) (mtest (meqB true (aslst (mcall m_law_refused (acons (mvar 0) (acons (mvar 1) (acons (mvar 2) (acons (mvar 3) anil)))))) (sized anil))) (mvar 0) ((List.range 7).map fun (i : Nat) => D.int (0 + (i : Int))) [none, some (.sh (RI row)), some (.sh (.int s)), some (.sh (RI places))] [] = _
  have := compD_filter (g := .nm 0) (c := mtest (meqB true (aslst (mcall m_law_refused (acons (mvar 0) (acons (mvar 1) (acons (mvar 2) (acons (mvar 3) anil)))))) (sized anil))) (elt := mvar 0) (f := fun (i : Nat) => D.int (0 + (i : Int))) (p := fun _ => false) (G := fun (i : Nat) => D.int (i : Int)) (fun ds ρ => (∀ d ∈ ds, d < 7) ∧ ∃ o, ρ = [o, some (.sh (RI row)), some (.sh (.int s)), some (.sh (RI places))]) ?_ (List.range 7) [none, some (.sh (RI row)), some (.sh (.int s)), some (.sh (RI places))] [] ⟨fun d hd => by simpa using hd, _, rfl⟩ (le_size (by simp))
  · rw [this]; rfl
  · rintro d ds ρ ⟨hd, o, rfl⟩
    refine ⟨[some (.sh (.int (d : Int))), some (.sh (RI row)), some (.sh (.int s)), some (.sh (RI places))], by rw [Int.zero_add]; rfl, ?_, (fun z => by cases z), fun e he => hd e (by simp [he]), _, rfl⟩
    exact eqB_nil (ds := []) (aslst_ev (mcall_sh (acons_ev (d := .int (d : Int)) rfl (acons_ev (d := RI row) rfl (acons_ev (d := .int s) rfl (acons_ev (d := RI places) rfl anil_ev)))) (refused_good row places s d (hd d (by simp)) hs hr hp)))
theorem cell_ok (o2 o3 o4 o5 o6 o7 : Option S) : Run b_law_f3 [some (.sh scr), some (.sh (.int c)), o2, o3, o4, o5, o6, o7] fun o => ∃ o2 o3 o4 o5 o6 o7, o = .nx [some (.sh scr), some (.sh (.int c)), o2, o3, o4, o5, o6, o7] := by
  unfold b_law_f3
  obtain ⟨row, hr, er⟩ := row_eq c 40 (by decide)
  have er : m_law_row [.int c, .int 40] = some (.fr (row.map .int)) := er
  obtain ⟨s, hs, es⟩ := step_eq c
  obtain ⟨pl, hpl, ep⟩ := by_turns_eq c 350 row s (by decide) (by omega)
  have ep : m_law_by_turns [.int c, .int 350, .lst (row.map .int), .int s] = some (.fr (pl.map .int)) := ep
  obtain ⟨far, hf, ef⟩ := far_eq c 320 (by decide)
  refine run_seq (ρ' := [some (.sh scr), some (.sh (.int c)), some (.sh (RI row)), o3, o4, o5, o6, o7]) ((mset_ev (mcall_fr (acons_ev (d := .int c) rfl (acons_ev (d := .int 40) rfl anil_ev)) er)).trans rfl) ?_
  refine run_seq (ρ' := [some (.sh scr), some (.sh (.int c)), some (.sh (RI row)), some (.sh (.int s)), o4, o5, o6, o7]) ((mset_ev (mcall_sh (acons_ev (d := .int c) rfl anil_ev) es)).trans rfl) ?_
  refine run_seq (ρ' := envL scr c row s pl o5 o6 o7) ((mset_ev (mcall_fr (acons_ev (d := .int c) rfl (acons_ev (d := .int 350) rfl (acons_ev (d := .lst (row.map .int)) rfl (acons_ev (d := .int s) rfl anil_ev)))) ep)).trans rfl) ?_
  have hi : aslst (mlst (sized (acons (mc (.int 0)) (acons (m1 negD (mc (.int 1))) (acons (m2 subD (mc (.int 0)) (mcall m_law_far (acons (mvar 1) (acons (mc (.int 320)) anil)))) (acons (m2 subD (mc (.int 0)) (mvar 3)) anil)))))) (envL scr c row s pl o5 o6 o7) = some (([0, -1, 0 - far, 0 - s] : List Int).map D.int) := by
    refine aslst_ev (mlst_ev (sized_ev (acons_ev (d := .int 0) rfl (acons_ev (d := .int (-1)) ?_ (acons_ev (d := .int (0 - far)) ?_ (acons_ev (d := .int (0 - s)) ?_ anil_ev)))) (le_size (by simp))))
    · unfold m1; rfl
    · unfold m2
      rw [mcall_sh (acons_ev (d := .int c) rfl (acons_ev (d := .int 320) rfl anil_ev)) ef]; rfl
    · unfold m2; rfl
  refine run_mseq (run_for [0, -1, 0 - far, 0 - s] (f := D.int) hi (I := fun ds ρ => (∀ d ∈ ds, d < 1) ∧ ∃ o5 o6 o7, ρ = envL scr c row s pl o5 o6 o7) _ ⟨?_, _, _, _, rfl⟩ ?_ ?_)
  · intro d hd
    simp only [List.mem_cons, List.not_mem_nil, or_false] at hd
    rcases hd with rfl | rfl | rfl | rfl <;> omega
  · rintro d ds ρ ⟨hd, p5, p6, p7, rfl⟩
    refine ⟨envL scr c row s pl (some (.sh (.int d))) p6 p7, rfl, ?_⟩
    obtain ⟨o, e, q6, q7, rfl⟩ := f2_ok scr c row pl s d (hd d (by simp)) p6 p7
    exact ⟨_, e, fun e he => hd e (by simp [he]), _, _, _, rfl⟩
  · rintro ρ ⟨_, p5, p6, p7, rfl⟩
    have c1 := eqB_nil (good_eq scr c row pl s hs (by omega) (by omega) p5 p6 p7)
    exact ⟨_, (mif_ev c1).trans rfl, _, _, _, _, _, _, rfl⟩
end
theorem law_true (ns : List Int) (hn : ns.length ≤ 63) : m_law [.lst (ns.map .int)] = some (.sh (.bl true)) := by
  unfold m_law b_law
  refine runB_run ?_
  obtain ⟨cs, ec⟩ := cells_eq ns 8 hn
  have ec : m_law_cells [.lst (ns.map .int), .int 8] = some (.fr (cs.map .int)) := ec
  refine run_mseq (run_for cs (f := D.int) (aslst_ev (mcall_fr (acons_ev (d := .lst (ns.map .int)) rfl (acons_ev (d := .int 8) rfl anil_ev)) ec)) (I := fun _ ρ => ∃ o1 o2 o3 o4 o5 o6 o7, ρ = [some (.sh (.lst (ns.map .int))), o1, o2, o3, o4, o5, o6, o7]) _ ⟨_, _, _, _, _, _, _, rfl⟩ ?_ (fun ρ _ => ⟨_, rfl, rfl⟩))
  rintro c cs' ρ ⟨o1, o2, o3, o4, o5, o6, o7, rfl⟩
  refine ⟨[some (.sh (.lst (ns.map .int))), some (.sh (.int c)), o2, o3, o4, o5, o6, o7], rfl, ?_⟩
  obtain ⟨o, e, p2, p3, p4, p5, p6, p7, rfl⟩ := cell_ok (.lst (ns.map .int)) c o2 o3 o4 o5 o6 o7
  exact ⟨_, e, _, _, _, _, _, _, _, rfl⟩
end Lw

set_option Elab.async false
set_option linter.all false
set_option maxRecDepth 100000
set_option maxHeartbeats 4000000
namespace Lw
open PySem L2
open PyProof.Rows
noncomputable def top (i : Nat) : Stmt := PySem.Challenge.pw_wavyrow_k03_no_steps.main.body.getD i (.Pass ⟨0, 0, 0, 0⟩)
noncomputable abbrev s_refuse_step : Stmt := top 10
noncomputable abbrev N_refuse_step : List Str := ["step"]
theorem sc_refuse_step : FnScope N_refuse_step ["step"] (defScope s_refuse_step) := ⟨rfl, rfl, rfl, by decide +kernel, rfl, by decide +kernel, by decide +kernel⟩
theorem ok_refuse_step {P : Program} {w : World} {K : PySem.W.Frag} {mg : Str → Option Value} {base : Heap} {f : Addr} {fd : FuncData} (Fn : Fun K "refuse_step" "refuse_step" s_refuse_step f fd) {y_NoStep : Addr} (a_NoStep : mg "NoStep" = some (.ref y_NoStep)) (xc_NoStep : XC K "NoStep" y_NoStep) (q_NoStep : PySem.W.excIn K y_NoStep bmV "ValueError.__new__" = true) : FnOk P w K mg base CX0 1 f fd ["step"] (spR K 1 m_refuse_step) :=
  Fn.okD (k := 0) (m := b_refuse_step) sc_refuse_step fun cdv A outer s H E hr => (pssd_one (psd_if (pc_cmp op_lt opd_lt (pd_var 0 (pv 0)) pd_int (nomark _)) (pssd_one psd_never) pssd_nil))
theorem okx_refuse_step {P : Program} {w : World} {K : PySem.W.Frag} {mg : Str → Option Value} {base : Heap} {f : Addr} {fd : FuncData} (Fn : Fun K "refuse_step" "refuse_step" s_refuse_step f fd) {y_NoStep : Addr} (a_NoStep : mg "NoStep" = some (.ref y_NoStep)) (xc_NoStep : XC K "NoStep" y_NoStep) (q_NoStep : PySem.W.excIn K y_NoStep bmV "ValueError.__new__" = true) : FnOk P w K mg base (CXx P w) 1 f fd ["step"] (spX K 1 xm_refuse_step) :=
  Fn.okX (k := 0) (m := bx_refuse_step) sc_refuse_step fun cdv A outer s H E hr => (pssx_one (psx_if rfl (pc_cmp op_lt opd_lt (pd_var 0 (pv 0)) pd_int (nomark _)) (pssx_one (psx_raise rfl ⟨rfl, rfl, rfl⟩ rfl rfl a_NoStep xc_NoStep q_NoStep (pas_cons pd_str pas_nil) (acons_len anil_len) (by decide))) pssx_none))
noncomputable abbrev s_are_places : Stmt := top 11
noncomputable abbrev N_are_places : List Str := ["row", "places", "least", "place"]
theorem sc_are_places : FnScope N_are_places ["row", "places"] (defScope s_are_places) := ⟨rfl, rfl, rfl, by decide +kernel, rfl, by decide +kernel, by decide +kernel⟩
theorem ok_are_places {P : Program} {w : World} {K : PySem.W.Frag} {mg : Str → Option Value} {base : Heap} {f : Addr} {fd : FuncData} (Fn : Fun K "are_places" "are_places" s_are_places f fd) (z_len : mg "len" = none) : FnOk P w K mg base CX0 1 f fd ["row", "places"] (spR K 2 m_are_places) :=
  Fn.okD (k := 0) (m := b_are_places) sc_are_places fun cdv A outer s H E hr => (pssd_cons (psd_set (i := 2) sc_are_places.nd rfl (by first | exact Or.inl rfl | exact Or.inr rfl) pd_int) (pssd_cons (psd_for PassesOwn.never rfl (pid_seq (pd_var 1 (pv 1))) (pgd_name (i := 3) (pg_name sc_are_places.nd rfl (by first | exact Or.inl rfl | exact Or.inr rfl))) (pssd_cons (psd_if (pc_w (pcw_or (pc_cmp op_lt opd_lt (pd_var 3 (pv 3)) (pd_var 2 (pv 2)) (nomark _)) (pw1_or (pc_cmp op_ge opd_ge (pd_var 3 (pv 3)) (pd_lenB rfl z_len (pb_var 0 (pv 0))) (nomark _))))) (pssd_one (psd_ret pd_bl)) pssd_nil) (pssd_one (psd_set (i := 2) sc_are_places.nd rfl (by first | exact Or.inl rfl | exact Or.inr rfl) (pd_add (pd_var 3 (pv 3)) pd_int))))) (pssd_one (psd_ret pd_bl))))
noncomputable abbrev s_turns_of : Stmt := top 12
noncomputable abbrev N_turns_of : List Str := ["numbers", "many", "left", "middle", "right"]
theorem sc_turns_of : FnScope N_turns_of ["numbers"] (defScope s_turns_of) := ⟨rfl, rfl, rfl, by decide +kernel, rfl, by decide +kernel, by decide +kernel⟩
theorem ok_turns_of {P : Program} {w : World} {K : PySem.W.Frag} {mg : Str → Option Value} {base : Heap} {f : Addr} {fd : FuncData} (Fn : Fun K "turns_of" "turns_of" s_turns_of f fd) (z_max : mg "max" = none) (z_min : mg "min" = none) (z_zip : mg "zip" = none) : FnOk P w K mg base CX0 1 f fd ["numbers"] (spR K 1 m_turns_of) :=
  Fn.okD (k := 0) (m := b_turns_of) sc_turns_of fun cdv A outer s H E hr => (pssd_cons (psd_set (i := 1) sc_turns_of.nd rfl (by first | exact Or.inl rfl | exact Or.inr rfl) pd_int) (pssd_cons (psd_for PassesOwn.never rfl (pid_zip3 rfl z_zip (pas_cons (pd_var 0 (pv 0)) (pas_cons (pf_pd (pf_sl (pb_var 0 (pv 0)) (pos_some pd_int) pos_none)) (pas_cons (pf_pd (pf_sl (pb_var 0 (pv 0)) (pos_some pd_int) pos_none)) pas_nil)))) (pgd_tup (is := [2, 3, 4]) (pg_tup rfl (pgs_cons (pg_name (i := 2) sc_turns_of.nd rfl (by first | exact Or.inl rfl | exact Or.inr rfl)) (pgs_cons (pg_name (i := 3) sc_turns_of.nd rfl (by first | exact Or.inl rfl | exact Or.inr rfl)) (pgs_cons (pg_name (i := 4) sc_turns_of.nd rfl (by first | exact Or.inl rfl | exact Or.inr rfl)) pgs_nil))))) (pssd_one (psd_if (pc_w (pcw_or (pc_cmp op_lt opd_lt (pd_max2 rfl rfl z_max (pas_cons (pd_var 2 (pv 2)) (pas_cons (pd_var 4 (pv 4)) pas_nil))) (pd_var 3 (pv 3)) (nomark _)) (pw1_or (pc_cmp op_lt opd_lt (pd_var 3 (pv 3)) (pd_min2 rfl rfl z_min (pas_cons (pd_var 2 (pv 2)) (pas_cons (pd_var 4 (pv 4)) pas_nil))) (nomark _))))) (pssd_one (psd_aug (i := 1) sc_turns_of.nd rfl (by first | exact Or.inl rfl | exact Or.inr rfl) pd_int)) pssd_nil))) (pssd_one (psd_retO 1 (pv 1)))))
noncomputable abbrev s_go_by_turns : Stmt := top 13
noncomputable abbrev N_go_by_turns : List Str := ["numbers", "step", "left", "right"]
theorem sc_go_by_turns : FnScope N_go_by_turns ["numbers", "step"] (defScope s_go_by_turns) := ⟨rfl, rfl, rfl, by decide +kernel, rfl, by decide +kernel, by decide +kernel⟩
theorem ok_go_by_turns {P : Program} {w : World} {K : PySem.W.Frag} {mg : Str → Option Value} {base : Heap} {f : Addr} {fd : FuncData} {x_turns_of : Addr} {d_turns_of : FuncData} (Fn : Fun K "go_by_turns" "go_by_turns" s_go_by_turns f fd) (G_turns_of : FnOk P w K mg base CX0 1 x_turns_of d_turns_of ["numbers"] (spR K 1 m_turns_of)) (b_turns_of : Binds K d_turns_of ["numbers"] []) (k_turns_of : PySem.W.keepIn K (.ref x_turns_of) = true) (a_turns_of : mg "turns_of" = some (.ref x_turns_of)) (z_abs : mg "abs" = none) (z_len : mg "len" = none) (z_max : mg "max" = none) (z_zip : mg "zip" = none) : FnOk P w K mg base CX0 2 f fd ["numbers", "step"] (spR K 2 m_go_by_turns) :=
  Fn.okD (k := 1) (m := b_go_by_turns) sc_go_by_turns fun cdv A outer s H E hr => (pssd_cons (psd_for PassesOwn.never rfl (pid_zip2 rfl z_zip (pas_cons (pd_var 0 (pv 0)) (pas_cons (pf_pd (pf_sl (pb_var 0 (pv 0)) (pos_some pd_int) pos_none)) pas_nil))) (pgd_tup (is := [2, 3]) (pg_tup rfl (pgs_cons (pg_name (i := 2) sc_go_by_turns.nd rfl (by first | exact Or.inl rfl | exact Or.inr rfl)) (pgs_cons (pg_name (i := 3) sc_go_by_turns.nd rfl (by first | exact Or.inl rfl | exact Or.inr rfl)) pgs_nil)))) (pssd_one (psd_if (pc_cmp op_lt opd_lt (pd_abs rfl z_abs (pas_cons (pd_sub (pd_var 3 (pv 3)) (pd_var 2 (pv 2))) pas_nil)) (pd_var 1 (pv 1)) (nomark _)) (pssd_one (psd_ret pd_bl)) pssd_nil))) (pssd_one (psd_ret (pd_cmp op_eq opd_eqS (pd_call (fun t ha => pe_call (G_turns_of.mono (by decide)) hr rfl a_turns_of k_turns_of b_turns_of .nil pass0 ha) rfl (pas_cons (pd_var 0 (pv 0)) pas_nil) (acons_len anil_len)) (pd_max2 rfl rfl z_max (pas_cons pd_int (pas_cons (pd_sub (pd_lenB rfl z_len (pb_var 0 (pv 0))) pd_int) pas_nil))) (nomark _)))))
noncomputable abbrev s_are_wavy : Stmt := top 14
noncomputable abbrev N_are_wavy : List Str := ["row", "step", "places"]
theorem sc_are_wavy : FnScope N_are_wavy ["row", "step", "places"] (defScope s_are_wavy) := ⟨rfl, rfl, rfl, by decide +kernel, rfl, by decide +kernel, by decide +kernel⟩
theorem nd_are_wavy_0 : List.Nodup (["place", "row"] : List Str) := by decide +kernel
theorem ok_are_wavy {P : Program} {w : World} {K : PySem.W.Frag} {mg : Str → Option Value} {base : Heap} {f : Addr} {fd : FuncData} {x_are_places : Addr} {d_are_places : FuncData} {x_go_by_turns : Addr} {d_go_by_turns : FuncData} {x_refuse_step : Addr} {d_refuse_step : FuncData} (Fn : Fun K "are_wavy" "are_wavy" s_are_wavy f fd) (G_are_places : FnOk P w K mg base CX0 1 x_are_places d_are_places ["row", "places"] (spR K 2 m_are_places)) (b_are_places : Binds K d_are_places ["row", "places"] []) (k_are_places : PySem.W.keepIn K (.ref x_are_places) = true) (a_are_places : mg "are_places" = some (.ref x_are_places)) (G_go_by_turns : FnOk P w K mg base CX0 2 x_go_by_turns d_go_by_turns ["numbers", "step"] (spR K 2 m_go_by_turns)) (b_go_by_turns : Binds K d_go_by_turns ["numbers", "step"] []) (k_go_by_turns : PySem.W.keepIn K (.ref x_go_by_turns) = true) (a_go_by_turns : mg "go_by_turns" = some (.ref x_go_by_turns)) (G_refuse_step : FnOk P w K mg base CX0 1 x_refuse_step d_refuse_step ["step"] (spR K 1 m_refuse_step)) (b_refuse_step : Binds K d_refuse_step ["step"] []) (k_refuse_step : PySem.W.keepIn K (.ref x_refuse_step) = true) (a_refuse_step : mg "refuse_step" = some (.ref x_refuse_step)) (GX_refuse_step : FnOk P w K mg base (CXx P w) 1 x_refuse_step d_refuse_step ["step"] (spX K 1 xm_refuse_step)) : FnOk P w K mg base CX0 3 f fd ["row", "step", "places"] (spR K 3 m_are_wavy) :=
  Fn.okD (k := 2) (m := b_are_wavy) sc_are_wavy fun cdv A outer s H E hr => (pssd_cons (psd_expr (pd_call (fun t ha => pe_call (G_refuse_step.mono (by decide)) hr rfl a_refuse_step k_refuse_step b_refuse_step .nil pass0 ha) rfl (pas_cons (pd_var 1 (pv 1)) pas_nil) (acons_len anil_len))) (pssd_one (psd_ret (pd_and (pd_call (fun t ha => pe_call (G_are_places.mono (by decide)) hr rfl a_are_places k_are_places b_are_places .nil pass0 ha) rfl (pas_cons (pd_var 0 (pv 0)) (pas_cons (pd_var 2 (pv 2)) pas_nil)) (acons_len (acons_len anil_len))) (pd_one (pd_call (fun t ha => pe_call (G_go_by_turns.mono (by decide)) hr rfl a_go_by_turns k_go_by_turns b_go_by_turns .nil pass0 ha) rfl (pas_cons (pf_pd (pf_comp (blk_of (N := ["place", "row"]) (src := [none, some 0]) (defScope s_are_wavy) N_are_wavy rfl rfl (by decide +kernel)) rfl (pid_seq (pd_var 2 (pv 2))) (fun C fp s0 H0 => (pgd_name (i := 0) (pg_name nd_are_wavy_0 rfl (by first | exact Or.inl rfl | exact Or.inr rfl)))) (fun C fp s0 H0 => ptsd_nil) (fun C fp s0 H0 => (pd_ix (pb_var 1 (pv 1)) (pd_var 0 (pv 0)))))) (pas_cons (pd_var 1 (pv 1)) pas_nil)) (acons_len (acons_len anil_len))))))))
theorem okx_are_wavy {P : Program} {w : World} {K : PySem.W.Frag} {mg : Str → Option Value} {base : Heap} {f : Addr} {fd : FuncData} {x_are_places : Addr} {d_are_places : FuncData} {x_go_by_turns : Addr} {d_go_by_turns : FuncData} {x_refuse_step : Addr} {d_refuse_step : FuncData} (Fn : Fun K "are_wavy" "are_wavy" s_are_wavy f fd) (G_are_places : FnOk P w K mg base CX0 1 x_are_places d_are_places ["row", "places"] (spR K 2 m_are_places)) (b_are_places : Binds K d_are_places ["row", "places"] []) (k_are_places : PySem.W.keepIn K (.ref x_are_places) = true) (a_are_places : mg "are_places" = some (.ref x_are_places)) (G_go_by_turns : FnOk P w K mg base CX0 2 x_go_by_turns d_go_by_turns ["numbers", "step"] (spR K 2 m_go_by_turns)) (b_go_by_turns : Binds K d_go_by_turns ["numbers", "step"] []) (k_go_by_turns : PySem.W.keepIn K (.ref x_go_by_turns) = true) (a_go_by_turns : mg "go_by_turns" = some (.ref x_go_by_turns)) (G_refuse_step : FnOk P w K mg base CX0 1 x_refuse_step d_refuse_step ["step"] (spR K 1 m_refuse_step)) (b_refuse_step : Binds K d_refuse_step ["step"] []) (k_refuse_step : PySem.W.keepIn K (.ref x_refuse_step) = true) (a_refuse_step : mg "refuse_step" = some (.ref x_refuse_step)) (GX_refuse_step : FnOk P w K mg base (CXx P w) 1 x_refuse_step d_refuse_step ["step"] (spX K 1 xm_refuse_step)) : FnOk P w K mg base (CXx P w) 3 f fd ["row", "step", "places"] (spX K 3 xm_are_wavy) :=
  Fn.okX (k := 2) (m := bx_are_wavy) sc_are_wavy fun cdv A outer s H E hr => (pssx_head (psx_expr (pex_call rfl ⟨rfl, rfl, rfl⟩ (GX_refuse_step.mono (by decide)) hr rfl a_refuse_step k_refuse_step b_refuse_step rfl (pas_cons (pd_var 1 (pv 1)) pas_nil) (acons_len anil_len))))
noncomputable abbrev s_tails : Stmt := top 17
noncomputable abbrev N_tails : List Str := ["row", "step", "ups", "downs", "place", "later", "rise"]
theorem sc_tails : FnScope N_tails ["row", "step"] (defScope s_tails) := ⟨rfl, rfl, rfl, by decide +kernel, rfl, by decide +kernel, by decide +kernel⟩
theorem nd_tails_0 : List.Nodup (["place"] : List Str) := by decide +kernel
theorem nd_tails_1 : List.Nodup (["place"] : List Str) := by decide +kernel
theorem ok_tails {P : Program} {w : World} {K : PySem.W.Frag} {mg : Str → Option Value} {base : Heap} {f : Addr} {fd : FuncData} (Fn : Fun K "tails" "tails" s_tails f fd) (z_len : mg "len" = none) (z_range : mg "range" = none) (z_reversed : mg "reversed" = none) : FnOk P w K mg base CX0 1 f fd ["row", "step"] (spR K 2 m_tails) :=
  Fn.okD (k := 0) (m := b_tails) sc_tails fun cdv A outer s H E hr => (pssd_cons (psd_setC (ps_setC (i := 2) sc_tails.nd rfl (by first | exact Or.inl rfl | exact Or.inr rfl) (blk_of (N := ["place"]) (src := [none]) (defScope s_tails) N_tails rfl rfl (by decide +kernel)) rfl (pid_range1 rfl z_range (pas_cons (pd_lenB rfl z_len (pb_var 0 (pv 0))) pas_nil)) (fun C fp s0 H0 => (pgd_name (i := 0) (pg_name nd_tails_0 rfl (by first | exact Or.inl rfl | exact Or.inr rfl)))) (fun C fp s0 H0 => ptsd_nil) (fun C fp s0 H0 => (pf_pd (pf_lst (pas_cons (pd_var 0 (pv 0)) pas_nil)))))) (pssd_cons (psd_setC (ps_setC (i := 3) sc_tails.nd rfl (by first | exact Or.inl rfl | exact Or.inr rfl) (blk_of (N := ["place"]) (src := [none]) (defScope s_tails) N_tails rfl rfl (by decide +kernel)) rfl (pid_range1 rfl z_range (pas_cons (pd_lenB rfl z_len (pb_var 0 (pv 0))) pas_nil)) (fun C fp s0 H0 => (pgd_name (i := 0) (pg_name nd_tails_1 rfl (by first | exact Or.inl rfl | exact Or.inr rfl)))) (fun C fp s0 H0 => ptsd_nil) (fun C fp s0 H0 => (pf_pd (pf_lst (pas_cons (pd_var 0 (pv 0)) pas_nil)))))) (pssd_cons (psd_for PassesOwn.never rfl (pid_revR1 rfl z_reversed rfl z_range (pas_cons (pd_lenB rfl z_len (pb_var 0 (pv 0))) pas_nil)) (pgd_name (i := 4) (pg_name sc_tails.nd rfl (by first | exact Or.inl rfl | exact Or.inr rfl))) (pssd_one (psd_for PassesOwn.never rfl (pid_range2 rfl z_range (pas_cons (pd_add (pd_var 4 (pv 4)) pd_int) (pas_cons (pd_lenB rfl z_len (pb_var 0 (pv 0))) pas_nil))) (pgd_name (i := 5) (pg_name sc_tails.nd rfl (by first | exact Or.inl rfl | exact Or.inr rfl))) (pssd_cons (psd_set (i := 6) sc_tails.nd rfl (by first | exact Or.inl rfl | exact Or.inr rfl) (pd_sub (pd_ix (pb_var 0 (pv 0)) (pd_var 5 (pv 5))) (pd_ix (pb_var 0 (pv 0)) (pd_var 4 (pv 4))))) (pssd_cons (psd_if (pc_w (pcw_and (pc_cmp op_ge opd_ge (pd_var 6 (pv 6)) (pd_var 1 (pv 1)) (nomark _)) (pw1_and (pc_cmp op_ge opd_ge (pd_lenB rfl z_len (pd_pb (pd_ix (pb_var 3 (pv 3)) (pd_var 5 (pv 5))))) (pd_lenB rfl z_len (pd_pb (pd_ix (pb_var 2 (pv 2)) (pd_var 4 (pv 4))))) (nomark _))))) (pssd_one (psd_setix (i := 2) (ps_asg (pf_pd (pf_cat (pf_pb (pf_lst (pas_cons (pd_var 4 (pv 4)) pas_nil))) (pd_pb (pd_ix (pb_var 3 (pv 3)) (pd_var 5 (pv 5)))))) (pg_sub (pv 2) (pd_var 4 (pv 4)) set_list)))) pssd_nil) (pssd_one (psd_if (pc_w (pcw_and (pc_cmp op_ge opd_ge (pd_neg (pd_var 6 (pv 6))) (pd_var 1 (pv 1)) (nomark _)) (pw1_and (pc_cmp op_ge opd_ge (pd_lenB rfl z_len (pd_pb (pd_ix (pb_var 2 (pv 2)) (pd_var 5 (pv 5))))) (pd_lenB rfl z_len (pd_pb (pd_ix (pb_var 3 (pv 3)) (pd_var 4 (pv 4))))) (nomark _))))) (pssd_one (psd_setix (i := 3) (ps_asg (pf_pd (pf_cat (pf_pb (pf_lst (pas_cons (pd_var 4 (pv 4)) pas_nil))) (pd_pb (pd_ix (pb_var 2 (pv 2)) (pd_var 5 (pv 5)))))) (pg_sub (pv 3) (pd_var 4 (pv 4)) set_list)))) pssd_nil))))))) (pssd_freeze 2 (pssd_freeze 3 (pssd_one (psd_ret (pd_tup (pas_cons (pd_var 2 (pv 2)) (pas_cons (pd_var 3 (pv 3)) pas_nil))))))))))
noncomputable abbrev s_longer_first : Stmt := top 18
noncomputable abbrev N_longer_first : List Str := ["places"]
theorem sc_longer_first : FnScope N_longer_first ["places"] (defScope s_longer_first) := ⟨rfl, rfl, rfl, by decide +kernel, rfl, by decide +kernel, by decide +kernel⟩
theorem ok_longer_first {P : Program} {w : World} {K : PySem.W.Frag} {mg : Str → Option Value} {base : Heap} {f : Addr} {fd : FuncData} (Fn : Fun K "longer_first" "longer_first" s_longer_first f fd) (z_len : mg "len" = none) : FnOk P w K mg base CX0 1 f fd ["places"] (spR K 1 m_longer_first) :=
  Fn.okD (k := 0) (m := b_longer_first) sc_longer_first fun cdv A outer s H E hr => (pssd_one (psd_ret (pd_tup (pas_cons (pd_neg (pd_lenB rfl z_len (pb_var 0 (pv 0)))) (pas_cons (pd_var 0 (pv 0)) pas_nil)))))
noncomputable abbrev s_longest : Stmt := top 19
noncomputable abbrev N_longest : List Str := ["row", "step", "ups", "downs"]
theorem sc_longest : FnScope N_longest ["row", "step"] (defScope s_longest) := ⟨rfl, rfl, rfl, by decide +kernel, rfl, by decide +kernel, by decide +kernel⟩
theorem ok_longest {P : Program} {w : World} {K : PySem.W.Frag} {mg : Str → Option Value} {base : Heap} {f : Addr} {fd : FuncData} {x_longer_first : Addr} {d_longer_first : FuncData} {x_refuse_step : Addr} {d_refuse_step : FuncData} {x_tails : Addr} {d_tails : FuncData} (Fn : Fun K "longest" "longest" s_longest f fd) (G_longer_first : FnOk P w K mg base CX0 1 x_longer_first d_longer_first ["places"] (spR K 1 m_longer_first)) (b_longer_first : Binds K d_longer_first ["places"] []) (k_longer_first : PySem.W.keepIn K (.ref x_longer_first) = true) (a_longer_first : mg "longer_first" = some (.ref x_longer_first)) (G_refuse_step : FnOk P w K mg base CX0 1 x_refuse_step d_refuse_step ["step"] (spR K 1 m_refuse_step)) (b_refuse_step : Binds K d_refuse_step ["step"] []) (k_refuse_step : PySem.W.keepIn K (.ref x_refuse_step) = true) (a_refuse_step : mg "refuse_step" = some (.ref x_refuse_step)) (G_tails : FnOk P w K mg base CX0 1 x_tails d_tails ["row", "step"] (spR K 2 m_tails)) (b_tails : Binds K d_tails ["row", "step"] []) (k_tails : PySem.W.keepIn K (.ref x_tails) = true) (a_tails : mg "tails" = some (.ref x_tails)) (GX_refuse_step : FnOk P w K mg base (CXx P w) 1 x_refuse_step d_refuse_step ["step"] (spX K 1 xm_refuse_step)) (z_min : mg "min" = none) : FnOk P w K mg base CX0 3 f fd ["row", "step"] (spR K 2 m_longest) :=
  Fn.okD (k := 2) (m := b_longest) sc_longest fun cdv A outer s H E hr => (pssd_cons (psd_expr (pd_call (fun t ha => pe_call (G_refuse_step.mono (by decide)) hr rfl a_refuse_step k_refuse_step b_refuse_step .nil pass0 ha) rfl (pas_cons (pd_var 1 (pv 1)) pas_nil) (acons_len anil_len))) (pssd_cons (psd_asg (ps_asg (pd_call (fun t ha => pe_call (G_tails.mono (by decide)) hr rfl a_tails k_tails b_tails .nil pass0 ha) rfl (pas_cons (pd_var 0 (pv 0)) (pas_cons (pd_var 1 (pv 1)) pas_nil)) (acons_len (acons_len anil_len))) (pgd_tup (is := [2, 3]) (pg_tup rfl (pgs_cons (pg_name (i := 2) sc_longest.nd rfl (by first | exact Or.inl rfl | exact Or.inr rfl)) (pgs_cons (pg_name (i := 3) sc_longest.nd rfl (by first | exact Or.inl rfl | exact Or.inr rfl)) pgs_nil)))))) (pssd_one (psd_ret (pd_minK (keyAt_fn (G_longer_first.mono (by decide)) hr.in1 b_longer_first) rfl hr.units rfl z_min rfl a_longer_first (pd_pb (pd_add (pd_var 2 (pv 2)) (pd_var 3 (pv 3)))) (pf_pd (pf_lst pas_nil)))))))
theorem okx_longest {P : Program} {w : World} {K : PySem.W.Frag} {mg : Str → Option Value} {base : Heap} {f : Addr} {fd : FuncData} {x_longer_first : Addr} {d_longer_first : FuncData} {x_refuse_step : Addr} {d_refuse_step : FuncData} {x_tails : Addr} {d_tails : FuncData} (Fn : Fun K "longest" "longest" s_longest f fd) (G_longer_first : FnOk P w K mg base CX0 1 x_longer_first d_longer_first ["places"] (spR K 1 m_longer_first)) (b_longer_first : Binds K d_longer_first ["places"] []) (k_longer_first : PySem.W.keepIn K (.ref x_longer_first) = true) (a_longer_first : mg "longer_first" = some (.ref x_longer_first)) (G_refuse_step : FnOk P w K mg base CX0 1 x_refuse_step d_refuse_step ["step"] (spR K 1 m_refuse_step)) (b_refuse_step : Binds K d_refuse_step ["step"] []) (k_refuse_step : PySem.W.keepIn K (.ref x_refuse_step) = true) (a_refuse_step : mg "refuse_step" = some (.ref x_refuse_step)) (G_tails : FnOk P w K mg base CX0 1 x_tails d_tails ["row", "step"] (spR K 2 m_tails)) (b_tails : Binds K d_tails ["row", "step"] []) (k_tails : PySem.W.keepIn K (.ref x_tails) = true) (a_tails : mg "tails" = some (.ref x_tails)) (GX_refuse_step : FnOk P w K mg base (CXx P w) 1 x_refuse_step d_refuse_step ["step"] (spX K 1 xm_refuse_step)) (z_min : mg "min" = none) : FnOk P w K mg base (CXx P w) 3 f fd ["row", "step"] (spX K 2 xm_longest) :=
  Fn.okX (k := 2) (m := bx_longest) sc_longest fun cdv A outer s H E hr => (pssx_head (psx_expr (pex_call rfl ⟨rfl, rfl, rfl⟩ (GX_refuse_step.mono (by decide)) hr rfl a_refuse_step k_refuse_step b_refuse_step rfl (pas_cons (pd_var 1 (pv 1)) pas_nil) (acons_len anil_len))))
noncomputable abbrev s_how_long : Stmt := top 20
noncomputable abbrev N_how_long : List Str := ["row", "step"]
theorem sc_how_long : FnScope N_how_long ["row", "step"] (defScope s_how_long) := ⟨rfl, rfl, rfl, by decide +kernel, rfl, by decide +kernel, by decide +kernel⟩
theorem ok_how_long {P : Program} {w : World} {K : PySem.W.Frag} {mg : Str → Option Value} {base : Heap} {f : Addr} {fd : FuncData} {x_longest : Addr} {d_longest : FuncData} (Fn : Fun K "how_long" "how_long" s_how_long f fd) (G_longest : FnOk P w K mg base CX0 3 x_longest d_longest ["row", "step"] (spR K 2 m_longest)) (b_longest : Binds K d_longest ["row", "step"] []) (k_longest : PySem.W.keepIn K (.ref x_longest) = true) (a_longest : mg "longest" = some (.ref x_longest)) (GX_longest : FnOk P w K mg base (CXx P w) 3 x_longest d_longest ["row", "step"] (spX K 2 xm_longest)) (z_len : mg "len" = none) : FnOk P w K mg base CX0 4 f fd ["row", "step"] (spR K 2 m_how_long) :=
  Fn.okD (k := 3) (m := b_how_long) sc_how_long fun cdv A outer s H E hr => (pssd_one (psd_ret (pd_lenB rfl z_len (pd_pb (pd_call (fun t ha => pe_call (G_longest.mono (by decide)) hr rfl a_longest k_longest b_longest .nil pass0 ha) rfl (pas_cons (pd_var 0 (pv 0)) (pas_cons (pd_var 1 (pv 1)) pas_nil)) (acons_len (acons_len anil_len)))))))
theorem okx_how_long {P : Program} {w : World} {K : PySem.W.Frag} {mg : Str → Option Value} {base : Heap} {f : Addr} {fd : FuncData} {x_longest : Addr} {d_longest : FuncData} (Fn : Fun K "how_long" "how_long" s_how_long f fd) (G_longest : FnOk P w K mg base CX0 3 x_longest d_longest ["row", "step"] (spR K 2 m_longest)) (b_longest : Binds K d_longest ["row", "step"] []) (k_longest : PySem.W.keepIn K (.ref x_longest) = true) (a_longest : mg "longest" = some (.ref x_longest)) (GX_longest : FnOk P w K mg base (CXx P w) 3 x_longest d_longest ["row", "step"] (spX K 2 xm_longest)) (z_len : mg "len" = none) : FnOk P w K mg base (CXx P w) 4 f fd ["row", "step"] (spX K 2 xm_how_long) :=
  Fn.okX (k := 3) (m := bx_how_long) sc_how_long fun cdv A outer s H E hr => (pssx_one (psx_ret (pex_len rfl z_len (pex_call rfl ⟨rfl, rfl, rfl⟩ (GX_longest.mono (by decide)) hr rfl a_longest k_longest b_longest rfl (pas_cons (pd_var 0 (pv 0)) (pas_cons (pd_var 1 (pv 1)) pas_nil)) (acons_len (acons_len anil_len))))))
noncomputable abbrev s_first_break : Stmt := top 21
noncomputable abbrev N_first_break : List Str := ["row", "step", "kind", "start", "edge", "place", "gain"]
theorem sc_first_break : FnScope N_first_break ["row", "step", "kind", "start"] (defScope s_first_break) := ⟨rfl, rfl, rfl, by decide +kernel, rfl, by decide +kernel, by decide +kernel⟩
theorem ok_first_break {P : Program} {w : World} {K : PySem.W.Frag} {mg : Str → Option Value} {base : Heap} {f : Addr} {fd : FuncData} (Fn : Fun K "first_break" "first_break" s_first_break f fd) (z_len : mg "len" = none) (z_range : mg "range" = none) : FnOk P w K mg base CX0 1 f fd ["row", "step", "kind", "start"] (spR K 4 m_first_break) :=
  Fn.okD (k := 0) (m := b_first_break) sc_first_break fun cdv A outer s H E hr => (pssd_cons (psd_set (i := 4) sc_first_break.nd rfl (by first | exact Or.inl rfl | exact Or.inr rfl) (pd_var 3 (pv 3))) (pssd_cons (psd_for PassesOwn.never rfl (pid_range2 rfl z_range (pas_cons (pd_var 3 (pv 3)) (pas_cons (pd_lenB rfl z_len (pb_var 0 (pv 0))) pas_nil))) (pgd_name (i := 5) (pg_name sc_first_break.nd rfl (by first | exact Or.inl rfl | exact Or.inr rfl))) (pssd_cons (psd_set (i := 6) sc_first_break.nd rfl (by first | exact Or.inl rfl | exact Or.inr rfl) (pd_sub (pd_ix (pb_var 0 (pv 0)) (pd_var 5 (pv 5))) (pd_ix (pb_var 0 (pv 0)) (pd_var 4 (pv 4))))) (pssd_cons (psd_if (pc_cmp op_eq opd_eqS (pd_var 2 (pv 2)) pd_str (nomark _)) (pssd_one (psd_set (i := 6) sc_first_break.nd rfl (by first | exact Or.inl rfl | exact Or.inr rfl) (pd_neg (pd_var 6 (pv 6))))) pssd_nil) (pssd_cons (psd_if (pc_cmp op_le opd_le (pd_var 6 (pv 6)) (pd_neg (pd_var 1 (pv 1))) (nomark _)) (pssd_one (psd_retO 5 (pv 5))) pssd_nil) (pssd_one (psd_if (pc_cmp op_gt opd_gt (pd_var 6 (pv 6)) pd_int (nomark _)) (pssd_one (psd_set (i := 4) sc_first_break.nd rfl (by first | exact Or.inl rfl | exact Or.inr rfl) (pd_var 5 (pv 5)))) pssd_nil)))))) (pssd_one (psd_ret (pd_lenB rfl z_len (pb_var 0 (pv 0)))))))
noncomputable abbrev s_are_cuts : Stmt := top 22
noncomputable abbrev N_are_cuts : List Str := ["row", "cuts"]
theorem sc_are_cuts : FnScope N_are_cuts ["row", "cuts"] (defScope s_are_cuts) := ⟨rfl, rfl, rfl, by decide +kernel, rfl, by decide +kernel, by decide +kernel⟩
theorem ok_are_cuts {P : Program} {w : World} {K : PySem.W.Frag} {mg : Str → Option Value} {base : Heap} {f : Addr} {fd : FuncData} {x_are_places : Addr} {d_are_places : FuncData} (Fn : Fun K "are_cuts" "are_cuts" s_are_cuts f fd) (G_are_places : FnOk P w K mg base CX0 1 x_are_places d_are_places ["row", "places"] (spR K 2 m_are_places)) (b_are_places : Binds K d_are_places ["row", "places"] []) (k_are_places : PySem.W.keepIn K (.ref x_are_places) = true) (a_are_places : mg "are_places" = some (.ref x_are_places)) : FnOk P w K mg base CX0 2 f fd ["row", "cuts"] (spR K 2 m_are_cuts) :=
  Fn.okD (k := 1) (m := b_are_cuts) sc_are_cuts fun cdv A outer s H E hr => (pssd_one (psd_ret (pd_and (pd_call (fun t ha => pe_call (G_are_places.mono (by decide)) hr rfl a_are_places k_are_places b_are_places .nil pass0 ha) rfl (pas_cons (pd_var 0 (pv 0)) (pas_cons (pd_var 1 (pv 1)) pas_nil)) (acons_len (acons_len anil_len))) (pd_one (pd_cmp op_notIn_seq opd_in pd_int (pd_var 1 (pv 1)) rfl)))))
noncomputable abbrev s_pieces_show : Stmt := top 23
noncomputable abbrev N_pieces_show : List Str := ["row", "step", "paper", "word", "cuts", "first_end", "kind", "start", "end"]
theorem sc_pieces_show : FnScope N_pieces_show ["row", "step", "paper"] (defScope s_pieces_show) := ⟨rfl, rfl, rfl, by decide +kernel, rfl, by decide +kernel, by decide +kernel⟩
theorem ok_pieces_show {P : Program} {w : World} {K : PySem.W.Frag} {mg : Str → Option Value} {base : Heap} {f : Addr} {fd : FuncData} {x_are_cuts : Addr} {d_are_cuts : FuncData} {x_first_break : Addr} {d_first_break : FuncData} {x_refuse_step : Addr} {d_refuse_step : FuncData} {y_OTHER_KIND : Addr} (Fn : Fun K "pieces_show" "pieces_show" s_pieces_show f fd) (G_are_cuts : FnOk P w K mg base CX0 2 x_are_cuts d_are_cuts ["row", "cuts"] (spR K 2 m_are_cuts)) (b_are_cuts : Binds K d_are_cuts ["row", "cuts"] []) (k_are_cuts : PySem.W.keepIn K (.ref x_are_cuts) = true) (a_are_cuts : mg "are_cuts" = some (.ref x_are_cuts)) (G_first_break : FnOk P w K mg base CX0 1 x_first_break d_first_break ["row", "step", "kind", "start"] (spR K 4 m_first_break)) (b_first_break : Binds K d_first_break ["row", "step", "kind", "start"] []) (k_first_break : PySem.W.keepIn K (.ref x_first_break) = true) (a_first_break : mg "first_break" = some (.ref x_first_break)) (G_refuse_step : FnOk P w K mg base CX0 1 x_refuse_step d_refuse_step ["step"] (spR K 1 m_refuse_step)) (b_refuse_step : Binds K d_refuse_step ["step"] []) (k_refuse_step : PySem.W.keepIn K (.ref x_refuse_step) = true) (a_refuse_step : mg "refuse_step" = some (.ref x_refuse_step)) (GX_refuse_step : FnOk P w K mg base (CXx P w) 1 x_refuse_step d_refuse_step ["step"] (spX K 1 xm_refuse_step)) (T_OTHER_KIND : KTab w K y_OTHER_KIND tab_OTHER_KIND) (a_OTHER_KIND : mg "OTHER_KIND" = some (.ref y_OTHER_KIND)) (z_len : mg "len" = none) (z_min : mg "min" = none) (z_zip : mg "zip" = none) : FnOk P w K mg base CX0 3 f fd ["row", "step", "paper"] (spR K 3 m_pieces_show) :=
  Fn.okD (k := 2) (m := b_pieces_show) sc_pieces_show fun cdv A outer s H E hr => (pssd_cons (psd_expr (pd_call (fun t ha => pe_call (G_refuse_step.mono (by decide)) hr rfl a_refuse_step k_refuse_step b_refuse_step .nil pass0 ha) rfl (pas_cons (pd_var 1 (pv 1)) pas_nil) (acons_len anil_len))) (pssd_cons (psd_asg (ps_asg (pd_var 2 (pv 2)) (pgd_tup (is := [3, 4]) (pg_tup rfl (pgs_cons (pg_name (i := 3) sc_pieces_show.nd rfl (by first | exact Or.inl rfl | exact Or.inr rfl)) (pgs_cons (pg_name (i := 4) sc_pieces_show.nd rfl (by first | exact Or.inl rfl | exact Or.inr rfl)) pgs_nil)))))) (pssd_cons (psd_if (pc_w (pcw_or (pc_tabIn (op_tabNotIn T_OTHER_KIND) rfl a_OTHER_KIND (pd_var 3 (pv 3))) (pw1_or (pc_not (pc_tru (pd_call (fun t ha => pe_call (G_are_cuts.mono (by decide)) hr rfl a_are_cuts k_are_cuts b_are_cuts .nil pass0 ha) rfl (pas_cons (pd_var 0 (pv 0)) (pas_cons (pd_var 4 (pv 4)) pas_nil)) (acons_len (acons_len anil_len)))))))) (pssd_one (psd_ret pd_bl)) pssd_nil) (pssd_cons (psd_set (i := 5) sc_pieces_show.nd rfl (by first | exact Or.inl rfl | exact Or.inr rfl) (pd_minL rfl rfl z_min (pf_pb (pf_cat (pb_var 4 (pv 4)) (pf_pb (pf_lst (pas_cons (pd_lenB rfl z_len (pb_var 0 (pv 0))) pas_nil))))))) (pssd_cons (psd_if (pc_cmp op_lt opd_lt (pd_call (fun t ha => pe_call (G_first_break.mono (by decide)) hr rfl a_first_break k_first_break b_first_break .nil pass0 ha) rfl (pas_cons (pd_var 0 (pv 0)) (pas_cons (pd_var 1 (pv 1)) (pas_cons (pd_tab T_OTHER_KIND rfl a_OTHER_KIND (pd_var 3 (pv 3))) (pas_cons pd_int pas_nil)))) (acons_len (acons_len (acons_len (acons_len anil_len))))) (pd_var 5 (pv 5)) (nomark _)) (pssd_one (psd_ret pd_bl)) pssd_nil) (pssd_cons (psd_set (i := 6) sc_pieces_show.nd rfl (by first | exact Or.inl rfl | exact Or.inr rfl) (pd_var 3 (pv 3))) (pssd_cons (psd_for PassesOwn.never rfl (pid_zip2 rfl z_zip (pas_cons (pf_pd (pf_cat (pf_pb (pf_lst (pas_cons pd_int pas_nil))) (pf_pb (pf_sl (pb_var 4 (pv 4)) (pos_some pd_int) pos_none)))) (pas_cons (pf_pd (pf_cat (pf_pb (pf_sl (pb_var 4 (pv 4)) (pos_some pd_int) pos_none)) (pf_pb (pf_lst (pas_cons (pd_lenB rfl z_len (pb_var 0 (pv 0))) pas_nil))))) pas_nil))) (pgd_tup (is := [7, 8]) (pg_tup rfl (pgs_cons (pg_name (i := 7) sc_pieces_show.nd rfl (by first | exact Or.inl rfl | exact Or.inr rfl)) (pgs_cons (pg_name (i := 8) sc_pieces_show.nd rfl (by first | exact Or.inl rfl | exact Or.inr rfl)) pgs_nil)))) (pssd_cons (psd_if (pc_cmp op_lt opd_lt (pd_call (fun t ha => pe_call (G_first_break.mono (by decide)) hr rfl a_first_break k_first_break b_first_break .nil pass0 ha) rfl (pas_cons (pd_var 0 (pv 0)) (pas_cons (pd_var 1 (pv 1)) (pas_cons (pd_var 6 (pv 6)) (pas_cons (pd_var 7 (pv 7)) pas_nil)))) (acons_len (acons_len (acons_len (acons_len anil_len))))) (pd_var 8 (pv 8)) (nomark _)) (pssd_one (psd_ret pd_bl)) pssd_nil) (pssd_one (psd_set (i := 6) sc_pieces_show.nd rfl (by first | exact Or.inl rfl | exact Or.inr rfl) (pd_tab T_OTHER_KIND rfl a_OTHER_KIND (pd_var 6 (pv 6))))))) (pssd_one (psd_ret pd_bl)))))))))
theorem okx_pieces_show {P : Program} {w : World} {K : PySem.W.Frag} {mg : Str → Option Value} {base : Heap} {f : Addr} {fd : FuncData} {x_are_cuts : Addr} {d_are_cuts : FuncData} {x_first_break : Addr} {d_first_break : FuncData} {x_refuse_step : Addr} {d_refuse_step : FuncData} {y_OTHER_KIND : Addr} (Fn : Fun K "pieces_show" "pieces_show" s_pieces_show f fd) (G_are_cuts : FnOk P w K mg base CX0 2 x_are_cuts d_are_cuts ["row", "cuts"] (spR K 2 m_are_cuts)) (b_are_cuts : Binds K d_are_cuts ["row", "cuts"] []) (k_are_cuts : PySem.W.keepIn K (.ref x_are_cuts) = true) (a_are_cuts : mg "are_cuts" = some (.ref x_are_cuts)) (G_first_break : FnOk P w K mg base CX0 1 x_first_break d_first_break ["row", "step", "kind", "start"] (spR K 4 m_first_break)) (b_first_break : Binds K d_first_break ["row", "step", "kind", "start"] []) (k_first_break : PySem.W.keepIn K (.ref x_first_break) = true) (a_first_break : mg "first_break" = some (.ref x_first_break)) (G_refuse_step : FnOk P w K mg base CX0 1 x_refuse_step d_refuse_step ["step"] (spR K 1 m_refuse_step)) (b_refuse_step : Binds K d_refuse_step ["step"] []) (k_refuse_step : PySem.W.keepIn K (.ref x_refuse_step) = true) (a_refuse_step : mg "refuse_step" = some (.ref x_refuse_step)) (GX_refuse_step : FnOk P w K mg base (CXx P w) 1 x_refuse_step d_refuse_step ["step"] (spX K 1 xm_refuse_step)) (T_OTHER_KIND : KTab w K y_OTHER_KIND tab_OTHER_KIND) (a_OTHER_KIND : mg "OTHER_KIND" = some (.ref y_OTHER_KIND)) (z_len : mg "len" = none) (z_min : mg "min" = none) (z_zip : mg "zip" = none) : FnOk P w K mg base (CXx P w) 3 f fd ["row", "step", "paper"] (spX K 3 xm_pieces_show) :=
  Fn.okX (k := 2) (m := bx_pieces_show) sc_pieces_show fun cdv A outer s H E hr => (pssx_head (psx_expr (pex_call rfl ⟨rfl, rfl, rfl⟩ (GX_refuse_step.mono (by decide)) hr rfl a_refuse_step k_refuse_step b_refuse_step rfl (pas_cons (pd_var 1 (pv 1)) pas_nil) (acons_len anil_len))))
noncomputable abbrev s_pieces_of : Stmt := top 24
noncomputable abbrev N_pieces_of : List Str := ["row", "step", "fall", "rise", "word", "kind", "cuts", "cut"]
theorem sc_pieces_of : FnScope N_pieces_of ["row", "step"] (defScope s_pieces_of) := ⟨rfl, rfl, rfl, by decide +kernel, rfl, by decide +kernel, by decide +kernel⟩
theorem ok_pieces_of {P : Program} {w : World} {K : PySem.W.Frag} {mg : Str → Option Value} {base : Heap} {f : Addr} {fd : FuncData} {x_first_break : Addr} {d_first_break : FuncData} {x_refuse_step : Addr} {d_refuse_step : FuncData} {y_OTHER_KIND : Addr} (Fn : Fun K "pieces_of" "pieces_of" s_pieces_of f fd) (G_first_break : FnOk P w K mg base CX0 1 x_first_break d_first_break ["row", "step", "kind", "start"] (spR K 4 m_first_break)) (b_first_break : Binds K d_first_break ["row", "step", "kind", "start"] []) (k_first_break : PySem.W.keepIn K (.ref x_first_break) = true) (a_first_break : mg "first_break" = some (.ref x_first_break)) (G_refuse_step : FnOk P w K mg base CX0 1 x_refuse_step d_refuse_step ["step"] (spR K 1 m_refuse_step)) (b_refuse_step : Binds K d_refuse_step ["step"] []) (k_refuse_step : PySem.W.keepIn K (.ref x_refuse_step) = true) (a_refuse_step : mg "refuse_step" = some (.ref x_refuse_step)) (GX_refuse_step : FnOk P w K mg base (CXx P w) 1 x_refuse_step d_refuse_step ["step"] (spX K 1 xm_refuse_step)) (T_OTHER_KIND : KTab w K y_OTHER_KIND tab_OTHER_KIND) (a_OTHER_KIND : mg "OTHER_KIND" = some (.ref y_OTHER_KIND)) (z_len : mg "len" = none) (z_min : mg "min" = none) : FnOk P w K mg base CX0 2 f fd ["row", "step"] (spR K 2 m_pieces_of) :=
  Fn.okD (k := 1) (m := b_pieces_of) sc_pieces_of fun cdv A outer s H E hr => (pssd_cons (psd_expr (pd_call (fun t ha => pe_call (G_refuse_step.mono (by decide)) hr rfl a_refuse_step k_refuse_step b_refuse_step .nil pass0 ha) rfl (pas_cons (pd_var 1 (pv 1)) pas_nil) (acons_len anil_len))) (pssd_cons (psd_set (i := 2) sc_pieces_of.nd rfl (by first | exact Or.inl rfl | exact Or.inr rfl) (pd_call (fun t ha => pe_call (G_first_break.mono (by decide)) hr rfl a_first_break k_first_break b_first_break .nil pass0 ha) rfl (pas_cons (pd_var 0 (pv 0)) (pas_cons (pd_var 1 (pv 1)) (pas_cons pd_str (pas_cons pd_int pas_nil)))) (acons_len (acons_len (acons_len (acons_len anil_len)))))) (pssd_cons (psd_set (i := 3) sc_pieces_of.nd rfl (by first | exact Or.inl rfl | exact Or.inr rfl) (pd_call (fun t ha => pe_call (G_first_break.mono (by decide)) hr rfl a_first_break k_first_break b_first_break .nil pass0 ha) rfl (pas_cons (pd_var 0 (pv 0)) (pas_cons (pd_var 1 (pv 1)) (pas_cons pd_str (pas_cons pd_int pas_nil)))) (acons_len (acons_len (acons_len (acons_len anil_len)))))) (pssd_cons (psd_set (i := 4) sc_pieces_of.nd rfl (by first | exact Or.inl rfl | exact Or.inr rfl) (pd_ite (pc_cmp op_lt opd_lt (pd_var 2 (pv 2)) (pd_var 3 (pv 3)) (nomark _)) pd_str pd_str)) (pssd_cons (psd_set (i := 5) sc_pieces_of.nd rfl (by first | exact Or.inl rfl | exact Or.inr rfl) (pd_var 4 (pv 4))) (pssd_cons (psd_setF (i := 6) sc_pieces_of.nd rfl (by first | exact Or.inl rfl | exact Or.inr rfl) (pf_lst pas_nil)) (pssd_cons (psd_set (i := 7) sc_pieces_of.nd rfl (by first | exact Or.inl rfl | exact Or.inr rfl) (pd_min2 rfl rfl z_min (pas_cons (pd_var 2 (pv 2)) (pas_cons (pd_var 3 (pv 3)) pas_nil)))) (pssd_cons (psd_while 1000 PassesOwn.never (pc_cmp op_lt opd_lt (pd_var 7 (pv 7)) (pd_lenB rfl z_len (pb_var 0 (pv 0))) (nomark _)) (pssd_cons (psd_append (i := 6) (pv 6) (pd_var 7 (pv 7)) (fun t ha => pe_bm PySem.F.plainAttrs_list PySem.F.slot_list_append PySem.F.type_list_append mt_append (pv 6) ha) (pas_cons (pd_var 7 (pv 7)) pas_nil)) (pssd_cons (psd_set (i := 7) sc_pieces_of.nd rfl (by first | exact Or.inl rfl | exact Or.inr rfl) (pd_call (fun t ha => pe_call (G_first_break.mono (by decide)) hr rfl a_first_break k_first_break b_first_break .nil pass0 ha) rfl (pas_cons (pd_var 0 (pv 0)) (pas_cons (pd_var 1 (pv 1)) (pas_cons (pd_var 5 (pv 5)) (pas_cons (pd_var 7 (pv 7)) pas_nil)))) (acons_len (acons_len (acons_len (acons_len anil_len)))))) (pssd_one (psd_set (i := 5) sc_pieces_of.nd rfl (by first | exact Or.inl rfl | exact Or.inr rfl) (pd_tab T_OTHER_KIND rfl a_OTHER_KIND (pd_var 5 (pv 5)))))))) (pssd_freeze 6 (pssd_one (psd_ret (pd_tup (pas_cons (pd_var 4 (pv 4)) (pas_cons (pd_var 6 (pv 6)) pas_nil))))))))))))))
theorem okx_pieces_of {P : Program} {w : World} {K : PySem.W.Frag} {mg : Str → Option Value} {base : Heap} {f : Addr} {fd : FuncData} {x_first_break : Addr} {d_first_break : FuncData} {x_refuse_step : Addr} {d_refuse_step : FuncData} {y_OTHER_KIND : Addr} (Fn : Fun K "pieces_of" "pieces_of" s_pieces_of f fd) (G_first_break : FnOk P w K mg base CX0 1 x_first_break d_first_break ["row", "step", "kind", "start"] (spR K 4 m_first_break)) (b_first_break : Binds K d_first_break ["row", "step", "kind", "start"] []) (k_first_break : PySem.W.keepIn K (.ref x_first_break) = true) (a_first_break : mg "first_break" = some (.ref x_first_break)) (G_refuse_step : FnOk P w K mg base CX0 1 x_refuse_step d_refuse_step ["step"] (spR K 1 m_refuse_step)) (b_refuse_step : Binds K d_refuse_step ["step"] []) (k_refuse_step : PySem.W.keepIn K (.ref x_refuse_step) = true) (a_refuse_step : mg "refuse_step" = some (.ref x_refuse_step)) (GX_refuse_step : FnOk P w K mg base (CXx P w) 1 x_refuse_step d_refuse_step ["step"] (spX K 1 xm_refuse_step)) (T_OTHER_KIND : KTab w K y_OTHER_KIND tab_OTHER_KIND) (a_OTHER_KIND : mg "OTHER_KIND" = some (.ref y_OTHER_KIND)) (z_len : mg "len" = none) (z_min : mg "min" = none) : FnOk P w K mg base (CXx P w) 2 f fd ["row", "step"] (spX K 2 xm_pieces_of) :=
  Fn.okX (k := 1) (m := bx_pieces_of) sc_pieces_of fun cdv A outer s H E hr => (pssx_head (psx_expr (pex_call rfl ⟨rfl, rfl, rfl⟩ (GX_refuse_step.mono (by decide)) hr rfl a_refuse_step k_refuse_step b_refuse_step rfl (pas_cons (pd_var 1 (pv 1)) pas_nil) (acons_len anil_len))))
noncomputable abbrev s_law_stir : Stmt := top 26
noncomputable abbrev N_law_stir : List Str := ["cell", "k", "number"]
theorem sc_law_stir : FnScope N_law_stir ["cell", "k"] (defScope s_law_stir) := ⟨rfl, rfl, rfl, by decide +kernel, rfl, by decide +kernel, by decide +kernel⟩
theorem ok_law_stir {P : Program} {w : World} {K : PySem.W.Frag} {mg : Str → Option Value} {base : Heap} {f : Addr} {fd : FuncData} (Fn : Fun K "_law_stir" "_law_stir" s_law_stir f fd) : FnOk P w K mg base CX0 1 f fd ["cell", "k"] (spR K 2 m_law_stir) :=
  Fn.okD (k := 0) (m := b_law_stir) sc_law_stir fun cdv A outer s H E hr => (pssd_cons (psd_if (pc_cmp op_ge opd_ge (pd_var 0 (pv 0)) (pd_pow pd_int pd_int) (nomark _)) (pssd_one (psd_ret (pd_mod (pd_shr (pd_sub (pd_var 0 (pv 0)) (pd_pow pd_int pd_int)) (pd_mul pd_int (pd_var 1 (pv 1)))) (pd_pow pd_int pd_int)))) pssd_nil) (pssd_cons (psd_set (i := 2) sc_law_stir.nd rfl (by first | exact Or.inl rfl | exact Or.inr rfl) (pd_mod (pd_mul (pd_add (pd_add (pd_var 0 (pv 0)) (pd_mul pd_int (pd_var 1 (pv 1)))) pd_int) pd_int) pd_int)) (pssd_cons (psd_set (i := 2) sc_law_stir.nd rfl (by first | exact Or.inl rfl | exact Or.inr rfl) (pd_mod (pd_mul (pd_var 2 (pv 2)) (pd_var 2 (pv 2))) pd_int)) (pssd_one (psd_ret (pd_fdiv (pd_mod (pd_mul (pd_var 2 (pv 2)) pd_int) pd_int) pd_int))))))
noncomputable abbrev s_law_cells : Stmt := top 27
noncomputable abbrev N_law_cells : List Str := ["script", "many"]
theorem sc_law_cells : FnScope N_law_cells ["script", "many"] (defScope s_law_cells) := ⟨rfl, rfl, rfl, by decide +kernel, rfl, by decide +kernel, by decide +kernel⟩
theorem ok_law_cells {P : Program} {w : World} {K : PySem.W.Frag} {mg : Str → Option Value} {base : Heap} {f : Addr} {fd : FuncData} (Fn : Fun K "_law_cells" "_law_cells" s_law_cells f fd) (z_len : mg "len" = none) (z_max : mg "max" = none) (z_min : mg "min" = none) : FnOk P w K mg base CX0 1 f fd ["script", "many"] (spR K 2 m_law_cells) :=
  Fn.okD (k := 0) (m := b_law_cells) sc_law_cells fun cdv A outer s H E hr => (pssd_one (psd_retF (pf_sl (pf_pb (pf_cat (pf_pb (pf_sl (pb_var 0 (pv 0)) pos_none (pos_some (pd_var 1 (pv 1))))) (pf_pb (pf_lst (pas_cons pd_int pas_nil))))) pos_none (pos_some (pd_max2 rfl rfl z_max (pas_cons pd_int (pas_cons (pd_min2 rfl rfl z_min (pas_cons (pd_var 1 (pv 1)) (pas_cons (pd_lenB rfl z_len (pb_var 0 (pv 0))) pas_nil))) pas_nil)))))))
noncomputable abbrev s_law_row : Stmt := top 28
noncomputable abbrev N_law_row : List Str := ["cell", "most", "size", "kind", "wide", "block", "found", "last", "k", "one", "some"]
theorem sc_law_row : FnScope N_law_row ["cell", "most"] (defScope s_law_row) := ⟨rfl, rfl, rfl, by decide +kernel, rfl, by decide +kernel, by decide +kernel⟩
theorem ok_law_row {P : Program} {w : World} {K : PySem.W.Frag} {mg : Str → Option Value} {base : Heap} {f : Addr} {fd : FuncData} {x_law_stir : Addr} {d_law_stir : FuncData} (Fn : Fun K "_law_row" "_law_row" s_law_row f fd) (G_law_stir : FnOk P w K mg base CX0 1 x_law_stir d_law_stir ["cell", "k"] (spR K 2 m_law_stir)) (b_law_stir : Binds K d_law_stir ["cell", "k"] []) (k_law_stir : PySem.W.keepIn K (.ref x_law_stir) = true) (a_law_stir : mg "_law_stir" = some (.ref x_law_stir)) (z_min : mg "min" = none) (z_range : mg "range" = none) : FnOk P w K mg base CX0 2 f fd ["cell", "most"] (spR K 2 m_law_row) :=
  Fn.okD (k := 1) (m := b_law_row) sc_law_row fun cdv A outer s H E hr => (pssd_cons (psd_set (i := 2) sc_law_row.nd rfl (by first | exact Or.inl rfl | exact Or.inr rfl) (pd_mod (pd_call (fun t ha => pe_call (G_law_stir.mono (by decide)) hr rfl a_law_stir k_law_stir b_law_stir .nil pass0 ha) rfl (pas_cons (pd_var 0 (pv 0)) (pas_cons pd_int pas_nil)) (acons_len (acons_len anil_len))) (pd_ix (pf_pb (pf_lst (pas_cons pd_int (pas_cons pd_int (pas_cons pd_int (pas_cons (pd_add (pd_var 1 (pv 1)) pd_int) pas_nil)))))) (pd_mod (pd_call (fun t ha => pe_call (G_law_stir.mono (by decide)) hr rfl a_law_stir k_law_stir b_law_stir .nil pass0 ha) rfl (pas_cons (pd_var 0 (pv 0)) (pas_cons pd_int pas_nil)) (acons_len (acons_len anil_len))) pd_int)))) (pssd_cons (psd_set (i := 3) sc_law_row.nd rfl (by first | exact Or.inl rfl | exact Or.inr rfl) (pd_mod (pd_call (fun t ha => pe_call (G_law_stir.mono (by decide)) hr rfl a_law_stir k_law_stir b_law_stir .nil pass0 ha) rfl (pas_cons (pd_var 0 (pv 0)) (pas_cons pd_int pas_nil)) (acons_len (acons_len anil_len))) pd_int)) (pssd_cons (psd_set (i := 4) sc_law_row.nd rfl (by first | exact Or.inl rfl | exact Or.inr rfl) (pd_ix (pf_pb (pf_lst (pas_cons pd_int (pas_cons pd_int (pas_cons pd_int (pas_cons (pd_pow pd_int pd_int) pas_nil)))))) (pd_mod (pd_call (fun t ha => pe_call (G_law_stir.mono (by decide)) hr rfl a_law_stir k_law_stir b_law_stir .nil pass0 ha) rfl (pas_cons (pd_var 0 (pv 0)) (pas_cons pd_int pas_nil)) (acons_len (acons_len anil_len))) pd_int))) (pssd_cons (psd_set (i := 5) sc_law_row.nd rfl (by first | exact Or.inl rfl | exact Or.inr rfl) (pd_add pd_int (pd_mod (pd_call (fun t ha => pe_call (G_law_stir.mono (by decide)) hr rfl a_law_stir k_law_stir b_law_stir .nil pass0 ha) rfl (pas_cons (pd_var 0 (pv 0)) (pas_cons pd_int pas_nil)) (acons_len (acons_len anil_len))) pd_int))) (pssd_cons (psd_setF (i := 6) sc_law_row.nd rfl (by first | exact Or.inl rfl | exact Or.inr rfl) (pf_lst pas_nil)) (pssd_cons (psd_set (i := 7) sc_law_row.nd rfl (by first | exact Or.inl rfl | exact Or.inr rfl) pd_int) (pssd_cons (psd_for PassesOwn.never rfl (pid_range1 rfl z_range (pas_cons (pd_min2 rfl rfl z_min (pas_cons (pd_var 2 (pv 2)) (pas_cons (pd_var 1 (pv 1)) pas_nil))) pas_nil)) (pgd_name (i := 8) (pg_name sc_law_row.nd rfl (by first | exact Or.inl rfl | exact Or.inr rfl))) (pssd_cons (psd_set (i := 9) sc_law_row.nd rfl (by first | exact Or.inl rfl | exact Or.inr rfl) (pd_mod (pd_call (fun t ha => pe_call (G_law_stir.mono (by decide)) hr rfl a_law_stir k_law_stir b_law_stir .nil pass0 ha) rfl (pas_cons (pd_var 0 (pv 0)) (pas_cons (pd_add pd_int (pd_var 8 (pv 8))) pas_nil)) (acons_len (acons_len anil_len))) (pd_var 4 (pv 4)))) (pssd_cons (psd_set (i := 7) sc_law_row.nd rfl (by first | exact Or.inl rfl | exact Or.inr rfl) (pd_sub (pd_add (pd_var 7 (pv 7)) (pd_var 9 (pv 9))) (pd_fdiv (pd_var 4 (pv 4)) pd_int))) (pssd_cons (psd_set (i := 10) sc_law_row.nd rfl (by first | exact Or.inl rfl | exact Or.inr rfl) (pf_pd (pf_lst (pas_cons (pd_sub (pd_var 9 (pv 9)) (pd_fdiv (pd_var 4 (pv 4)) pd_int)) (pas_cons (pd_add (pd_var 8 (pv 8)) (pd_fdiv (pd_var 9 (pv 9)) pd_int)) (pas_cons (pd_sub (pd_sub pd_int (pd_var 8 (pv 8))) (pd_fdiv (pd_var 9 (pv 9)) pd_int)) (pas_cons (pd_ix (pf_pb (pf_lst (pas_cons (pd_var 9 (pv 9)) (pas_cons (pd_sub pd_int (pd_var 9 (pv 9))) pas_nil)))) (pd_mod (pd_var 8 (pv 8)) pd_int)) pas_nil))))))) (pssd_cons (psd_set (i := 10) sc_law_row.nd rfl (by first | exact Or.inl rfl | exact Or.inr rfl) (pf_pd (pf_cat (pb_var 10 (pv 10)) (pf_pb (pf_lst (pas_cons (pd_add (pd_var 9 (pv 9)) (pd_mul (pd_mod (pd_fdiv (pd_var 8 (pv 8)) (pd_var 5 (pv 5))) pd_int) (pd_var 4 (pv 4)))) (pas_cons (pd_var 4 (pv 4)) (pas_cons (pd_add (pd_mul (pd_sub (pd_var 9 (pv 9)) (pd_fdiv (pd_var 4 (pv 4)) pd_int)) (pd_pow pd_int pd_int)) (pd_mod (pd_call (fun t ha => pe_call (G_law_stir.mono (by decide)) hr rfl a_law_stir k_law_stir b_law_stir .nil pass0 ha) rfl (pas_cons (pd_var 0 (pv 0)) (pas_cons (pd_add pd_int (pd_var 8 (pv 8))) pas_nil)) (acons_len (acons_len anil_len))) pd_int)) pas_nil)))))))) (pssd_one (psd_append (i := 6) (pv 6) (pd_ix (pf_pb (pf_cat (pb_var 10 (pv 10)) (pf_pb (pf_lst (pas_cons (pd_var 7 (pv 7)) pas_nil))))) (pd_var 3 (pv 3))) (fun t ha => pe_bm PySem.F.plainAttrs_list PySem.F.slot_list_append PySem.F.type_list_append mt_append (pv 6) ha) (pas_cons (pd_ix (pf_pb (pf_cat (pb_var 10 (pv 10)) (pf_pb (pf_lst (pas_cons (pd_var 7 (pv 7)) pas_nil))))) (pd_var 3 (pv 3))) pas_nil)))))))) (pssd_one (psd_retO 6 (pv 6))))))))))
noncomputable abbrev s_law_step : Stmt := top 29
noncomputable abbrev N_law_step : List Str := ["cell", "some"]
theorem sc_law_step : FnScope N_law_step ["cell"] (defScope s_law_step) := ⟨rfl, rfl, rfl, by decide +kernel, rfl, by decide +kernel, by decide +kernel⟩
theorem ok_law_step {P : Program} {w : World} {K : PySem.W.Frag} {mg : Str → Option Value} {base : Heap} {f : Addr} {fd : FuncData} {x_law_stir : Addr} {d_law_stir : FuncData} (Fn : Fun K "_law_step" "_law_step" s_law_step f fd) (G_law_stir : FnOk P w K mg base CX0 1 x_law_stir d_law_stir ["cell", "k"] (spR K 2 m_law_stir)) (b_law_stir : Binds K d_law_stir ["cell", "k"] []) (k_law_stir : PySem.W.keepIn K (.ref x_law_stir) = true) (a_law_stir : mg "_law_stir" = some (.ref x_law_stir)) : FnOk P w K mg base CX0 2 f fd ["cell"] (spR K 1 m_law_step) :=
  Fn.okD (k := 1) (m := b_law_step) sc_law_step fun cdv A outer s H E hr => (pssd_cons (psd_set (i := 1) sc_law_step.nd rfl (by first | exact Or.inl rfl | exact Or.inr rfl) (pf_pd (pf_lst (pas_cons pd_int (pas_cons (pd_add pd_int (pd_mod (pd_call (fun t ha => pe_call (G_law_stir.mono (by decide)) hr rfl a_law_stir k_law_stir b_law_stir .nil pass0 ha) rfl (pas_cons (pd_var 0 (pv 0)) (pas_cons pd_int pas_nil)) (acons_len (acons_len anil_len))) pd_int)) (pas_cons (pd_add pd_int (pd_mod (pd_call (fun t ha => pe_call (G_law_stir.mono (by decide)) hr rfl a_law_stir k_law_stir b_law_stir .nil pass0 ha) rfl (pas_cons (pd_var 0 (pv 0)) (pas_cons pd_int pas_nil)) (acons_len (acons_len anil_len))) pd_int)) pas_nil)))))) (pssd_one (psd_ret (pd_ix (pf_pb (pf_cat (pb_var 1 (pv 1)) (pf_pb (pf_lst (pas_cons (pd_add pd_int (pd_mul (pd_mod (pd_call (fun t ha => pe_call (G_law_stir.mono (by decide)) hr rfl a_law_stir k_law_stir b_law_stir .nil pass0 ha) rfl (pas_cons (pd_var 0 (pv 0)) (pas_cons pd_int pas_nil)) (acons_len (acons_len anil_len))) (pd_pow pd_int pd_int)) (pd_pow pd_int pd_int))) pas_nil))))) (pd_mod (pd_call (fun t ha => pe_call (G_law_stir.mono (by decide)) hr rfl a_law_stir k_law_stir b_law_stir .nil pass0 ha) rfl (pas_cons (pd_var 0 (pv 0)) (pas_cons pd_int pas_nil)) (acons_len (acons_len anil_len))) pd_int)))))
noncomputable abbrev s_law_flags : Stmt := top 30
noncomputable abbrev N_law_flags : List Str := ["e", "found"]
theorem sc_law_flags : FnScope N_law_flags ["e"] (defScope s_law_flags) := ⟨rfl, rfl, rfl, by decide +kernel, rfl, by decide +kernel, by decide +kernel⟩
theorem ok_law_flags {P : Program} {w : World} {K : PySem.W.Frag} {mg : Str → Option Value} {base : Heap} {f : Addr} {fd : FuncData} (Fn : Fun K "_law_flags" "_law_flags" s_law_flags f fd) {y_NoForm : Addr} (a_NoForm : mg "NoForm" = some (.ref y_NoForm)) {y_NoNumber : Addr} (a_NoNumber : mg "NoNumber" = some (.ref y_NoNumber)) {y_NoPlace : Addr} (a_NoPlace : mg "NoPlace" = some (.ref y_NoPlace)) {y_NoStep : Addr} (a_NoStep : mg "NoStep" = some (.ref y_NoStep)) {y_NoText : Addr} (a_NoText : mg "NoText" = some (.ref y_NoText)) {y_NoWeights : Addr} (a_NoWeights : mg "NoWeights" = some (.ref y_NoWeights)) {y_NoneYet : Addr} (a_NoneYet : mg "NoneYet" = some (.ref y_NoneYet)) (hi_NoForm : ∀ c k, ([("NoStep", false)] : List (Str × Bool)).lookup c = some k → ∀ C, XC K c C → XCls K C ∧ PySem.W.kitOne K (.ref C) (.ref y_NoForm) = some k) (hi_NoNumber : ∀ c k, ([("NoStep", false)] : List (Str × Bool)).lookup c = some k → ∀ C, XC K c C → XCls K C ∧ PySem.W.kitOne K (.ref C) (.ref y_NoNumber) = some k) (hi_NoPlace : ∀ c k, ([("NoStep", false)] : List (Str × Bool)).lookup c = some k → ∀ C, XC K c C → XCls K C ∧ PySem.W.kitOne K (.ref C) (.ref y_NoPlace) = some k) (hi_NoStep : ∀ c k, ([("NoStep", true)] : List (Str × Bool)).lookup c = some k → ∀ C, XC K c C → XCls K C ∧ PySem.W.kitOne K (.ref C) (.ref y_NoStep) = some k) (hi_NoText : ∀ c k, ([("NoStep", false)] : List (Str × Bool)).lookup c = some k → ∀ C, XC K c C → XCls K C ∧ PySem.W.kitOne K (.ref C) (.ref y_NoText) = some k) (hi_NoWeights : ∀ c k, ([("NoStep", false)] : List (Str × Bool)).lookup c = some k → ∀ C, XC K c C → XCls K C ∧ PySem.W.kitOne K (.ref C) (.ref y_NoWeights) = some k) (hi_NoneYet : ∀ c k, ([("NoStep", false)] : List (Str × Bool)).lookup c = some k → ∀ C, XC K c C → XCls K C ∧ PySem.W.kitOne K (.ref C) (.ref y_NoneYet) = some k) (hb_ValueError : ∀ c k, ([("NoStep", true)] : List (Str × Bool)).lookup c = some k → ∀ C, XC K c C → XCls K C ∧ PySem.W.kitOne K (.ref C) (.type "ValueError") = some k) (z_ValueError : mg "ValueError" = none) (z_isinstance : mg "isinstance" = none) : FnOkN P w K mg base CX0 1 f fd ["e"] (spR K 1 m_law_flags) :=
  Fn.okN (k := 0) (m := b_law_flags) sc_law_flags fun cdv A outer s H E hr => (pssd_cons (psd_set (i := 1) sc_law_flags.nd rfl (by first | exact Or.inl rfl | exact Or.inr rfl) (pf_pd (pf_lst (pas_cons (pd_isX (tab := [("NoStep", true)]) rfl z_isinstance rfl a_NoStep (pd_var 0 (pv 0)) hi_NoStep) (pas_cons (pd_isX (tab := [("NoStep", false)]) rfl z_isinstance rfl a_NoPlace (pd_var 0 (pv 0)) hi_NoPlace) (pas_cons (pd_isX (tab := [("NoStep", false)]) rfl z_isinstance rfl a_NoWeights (pd_var 0 (pv 0)) hi_NoWeights) (pas_cons (pd_isX (tab := [("NoStep", false)]) rfl z_isinstance rfl a_NoNumber (pd_var 0 (pv 0)) hi_NoNumber) pas_nil))))))) (pssd_cons (psd_set (i := 1) sc_law_flags.nd rfl (by first | exact Or.inl rfl | exact Or.inr rfl) (pf_pd (pf_cat (pb_var 1 (pv 1)) (pf_pb (pf_lst (pas_cons (pd_isX (tab := [("NoStep", false)]) rfl z_isinstance rfl a_NoText (pd_var 0 (pv 0)) hi_NoText) (pas_cons (pd_isX (tab := [("NoStep", false)]) rfl z_isinstance rfl a_NoForm (pd_var 0 (pv 0)) hi_NoForm) (pas_cons (pd_isX (tab := [("NoStep", false)]) rfl z_isinstance rfl a_NoneYet (pd_var 0 (pv 0)) hi_NoneYet) pas_nil)))))))) (pssd_one (psd_retF (pf_cat (pb_var 1 (pv 1)) (pf_pb (pf_lst (pas_cons (pd_not (pd_isXB (T := "ValueError") (tab := [("NoStep", true)]) rfl z_isinstance rfl z_ValueError (by rfl) (pd_var 0 (pv 0)) hb_ValueError)) pas_nil))))))))
noncomputable abbrev s_law_far : Stmt := top 31
noncomputable abbrev N_law_far : List Str := ["cell", "k"]
theorem sc_law_far : FnScope N_law_far ["cell", "k"] (defScope s_law_far) := ⟨rfl, rfl, rfl, by decide +kernel, rfl, by decide +kernel, by decide +kernel⟩
theorem ok_law_far {P : Program} {w : World} {K : PySem.W.Frag} {mg : Str → Option Value} {base : Heap} {f : Addr} {fd : FuncData} {x_law_stir : Addr} {d_law_stir : FuncData} (Fn : Fun K "_law_far" "_law_far" s_law_far f fd) (G_law_stir : FnOk P w K mg base CX0 1 x_law_stir d_law_stir ["cell", "k"] (spR K 2 m_law_stir)) (b_law_stir : Binds K d_law_stir ["cell", "k"] []) (k_law_stir : PySem.W.keepIn K (.ref x_law_stir) = true) (a_law_stir : mg "_law_stir" = some (.ref x_law_stir)) : FnOk P w K mg base CX0 2 f fd ["cell", "k"] (spR K 2 m_law_far) :=
  Fn.okD (k := 1) (m := b_law_far) sc_law_far fun cdv A outer s H E hr => (pssd_one (psd_ret (pd_ix (pf_pb (pf_lst (pas_cons pd_int (pas_cons pd_int (pas_cons (pd_mod (pd_call (fun t ha => pe_call (G_law_stir.mono (by decide)) hr rfl a_law_stir k_law_stir b_law_stir .nil pass0 ha) rfl (pas_cons (pd_var 0 (pv 0)) (pas_cons (pd_add (pd_var 1 (pv 1)) pd_int) pas_nil)) (acons_len (acons_len anil_len))) pd_int) (pas_cons (pd_pow pd_int pd_int) pas_nil)))))) (pd_mod (pd_call (fun t ha => pe_call (G_law_stir.mono (by decide)) hr rfl a_law_stir k_law_stir b_law_stir .nil pass0 ha) rfl (pas_cons (pd_var 0 (pv 0)) (pas_cons (pd_var 1 (pv 1)) pas_nil)) (acons_len (acons_len anil_len))) pd_int))))
noncomputable abbrev s_law_by_turns : Stmt := top 32
noncomputable abbrev N_law_by_turns : List Str := ["cell", "k", "row", "step", "found", "up", "place", "number", "passed", "far"]
theorem sc_law_by_turns : FnScope N_law_by_turns ["cell", "k", "row", "step"] (defScope s_law_by_turns) := ⟨rfl, rfl, rfl, by decide +kernel, rfl, by decide +kernel, by decide +kernel⟩
theorem ok_law_by_turns {P : Program} {w : World} {K : PySem.W.Frag} {mg : Str → Option Value} {base : Heap} {f : Addr} {fd : FuncData} {x_law_stir : Addr} {d_law_stir : FuncData} (Fn : Fun K "_law_by_turns" "_law_by_turns" s_law_by_turns f fd) (G_law_stir : FnOk P w K mg base CX0 1 x_law_stir d_law_stir ["cell", "k"] (spR K 2 m_law_stir)) (b_law_stir : Binds K d_law_stir ["cell", "k"] []) (k_law_stir : PySem.W.keepIn K (.ref x_law_stir) = true) (a_law_stir : mg "_law_stir" = some (.ref x_law_stir)) (z_abs : mg "abs" = none) (z_enumerate : mg "enumerate" = none) : FnOk P w K mg base CX0 2 f fd ["cell", "k", "row", "step"] (spR K 4 m_law_by_turns) :=
  Fn.okD (k := 1) (m := b_law_by_turns) sc_law_by_turns fun cdv A outer s H E hr => (pssd_cons (psd_setF (i := 4) sc_law_by_turns.nd rfl (by first | exact Or.inl rfl | exact Or.inr rfl) (pf_lst pas_nil)) (pssd_cons (psd_set (i := 5) sc_law_by_turns.nd rfl (by first | exact Or.inl rfl | exact Or.inr rfl) pd_non) (pssd_cons (psd_for PassesOwn.never rfl (pid_enum rfl z_enumerate (pas_cons (pd_var 2 (pv 2)) pas_nil)) (pgd_tup (is := [6, 7]) (pg_tup rfl (pgs_cons (pg_name (i := 6) sc_law_by_turns.nd rfl (by first | exact Or.inl rfl | exact Or.inr rfl)) (pgs_cons (pg_name (i := 7) sc_law_by_turns.nd rfl (by first | exact Or.inl rfl | exact Or.inr rfl)) pgs_nil)))) (pssd_cons (psd_set (i := 8) sc_law_by_turns.nd rfl (by first | exact Or.inl rfl | exact Or.inr rfl) (pd_and (pd_cmp op_eq opd_eqS (pd_band (pd_shr (pd_call (fun t ha => pe_call (G_law_stir.mono (by decide)) hr rfl a_law_stir k_law_stir b_law_stir .nil pass0 ha) rfl (pas_cons (pd_var 0 (pv 0)) (pas_cons (pd_add (pd_var 1 (pv 1)) (pd_fdiv (pd_var 6 (pv 6)) pd_int)) pas_nil)) (acons_len (acons_len anil_len))) (pd_mod (pd_var 6 (pv 6)) pd_int)) pd_int) pd_int (nomark _)) (pd_one (pd_cmp op_gt opd_gt (pd_mod (pd_var 6 (pv 6)) pd_int) pd_int (nomark _))))) (pssd_one (psd_if (pc_w (pcw_and (pc_eqB (op_eqF hr.units) (pb_var 4 (pv 4)) (pf_pb (pf_lst pas_nil)) (nomark _)) (pw1_and (pc_not (pc_tru (pd_var 8 (pv 8))))))) (pssd_one (psd_append (i := 4) (pv 4) (pd_var 6 (pv 6)) (fun t ha => pe_bm PySem.F.plainAttrs_list PySem.F.slot_list_append PySem.F.type_list_append mt_append (pv 4) ha) (pas_cons (pd_var 6 (pv 6)) pas_nil))) (pssd_one (psd_if (pc_w (pcw_and (pc_eqB (op_neF hr.units) (pb_var 4 (pv 4)) (pf_pb (pf_lst pas_nil)) (nomark _)) (pw1_and (pc_not (pc_tru (pd_var 8 (pv 8))))))) (pssd_cons (psd_set (i := 9) sc_law_by_turns.nd rfl (by first | exact Or.inl rfl | exact Or.inr rfl) (pd_sub (pd_var 7 (pv 7)) (pd_ix (pb_var 2 (pv 2)) (pd_ix (pb_var 4 (pv 4)) (pd_neg pd_int))))) (pssd_one (psd_if (pc_w (pcw_and (pc_cmp op_ge opd_ge (pd_abs rfl z_abs (pas_cons (pd_var 9 (pv 9)) pas_nil)) (pd_var 3 (pv 3)) (nomark _)) (pw1_and (pc_cmp op_ne opd_neS (pd_var 5 (pv 5)) (pd_cmp op_gt opd_gt (pd_var 9 (pv 9)) pd_int (nomark _)) (nomark _))))) (pssd_cons (psd_set (i := 5) sc_law_by_turns.nd rfl (by first | exact Or.inl rfl | exact Or.inr rfl) (pd_cmp op_gt opd_gt (pd_var 9 (pv 9)) pd_int (nomark _))) (pssd_one (psd_append (i := 4) (pv 4) (pd_var 6 (pv 6)) (fun t ha => pe_bm PySem.F.plainAttrs_list PySem.F.slot_list_append PySem.F.type_list_append mt_append (pv 4) ha) (pas_cons (pd_var 6 (pv 6)) pas_nil)))) pssd_nil))) pssd_nil)))))) (pssd_one (psd_retO 4 (pv 4))))))
noncomputable abbrev s_law_refused : Stmt := top 33
noncomputable abbrev N_law_refused : List Str := ["door", "row", "step", "places", "found", "handed", "e"]
theorem sc_law_refused : FnScope N_law_refused ["door", "row", "step", "places"] (defScope s_law_refused) := ⟨rfl, rfl, rfl, by decide +kernel, rfl, by decide +kernel, by decide +kernel⟩
theorem ok_law_refused {P : Program} {w : World} {K : PySem.W.Frag} {mg : Str → Option Value} {base : Heap} {f : Addr} {fd : FuncData} {x_law_flags : Addr} {d_law_flags : FuncData} {x_are_wavy : Addr} {d_are_wavy : FuncData} {x_how_long : Addr} {d_how_long : FuncData} {x_longest : Addr} {d_longest : FuncData} {x_pieces_of : Addr} {d_pieces_of : FuncData} {x_pieces_show : Addr} {d_pieces_show : FuncData} (Fn : Fun K "_law_refused" "_law_refused" s_law_refused f fd) (G_law_flags : FnOkN P w K mg base CX0 1 x_law_flags d_law_flags ["e"] (spR K 1 m_law_flags)) (b_law_flags : Binds K d_law_flags ["e"] []) (k_law_flags : PySem.W.keepIn K (.ref x_law_flags) = true) (a_law_flags : mg "_law_flags" = some (.ref x_law_flags)) (G_are_wavy : FnOk P w K mg base CX0 3 x_are_wavy d_are_wavy ["row", "step", "places"] (spR K 3 m_are_wavy)) (b_are_wavy : Binds K d_are_wavy ["row", "step", "places"] []) (k_are_wavy : PySem.W.keepIn K (.ref x_are_wavy) = true) (a_are_wavy : mg "are_wavy" = some (.ref x_are_wavy)) (G_how_long : FnOk P w K mg base CX0 4 x_how_long d_how_long ["row", "step"] (spR K 2 m_how_long)) (b_how_long : Binds K d_how_long ["row", "step"] []) (k_how_long : PySem.W.keepIn K (.ref x_how_long) = true) (a_how_long : mg "how_long" = some (.ref x_how_long)) (G_longest : FnOk P w K mg base CX0 3 x_longest d_longest ["row", "step"] (spR K 2 m_longest)) (b_longest : Binds K d_longest ["row", "step"] []) (k_longest : PySem.W.keepIn K (.ref x_longest) = true) (a_longest : mg "longest" = some (.ref x_longest)) (G_pieces_of : FnOk P w K mg base CX0 2 x_pieces_of d_pieces_of ["row", "step"] (spR K 2 m_pieces_of)) (b_pieces_of : Binds K d_pieces_of ["row", "step"] []) (k_pieces_of : PySem.W.keepIn K (.ref x_pieces_of) = true) (a_pieces_of : mg "pieces_of" = some (.ref x_pieces_of)) (G_pieces_show : FnOk P w K mg base CX0 3 x_pieces_show d_pieces_show ["row", "step", "paper"] (spR K 3 m_pieces_show)) (b_pieces_show : Binds K d_pieces_show ["row", "step", "paper"] []) (k_pieces_show : PySem.W.keepIn K (.ref x_pieces_show) = true) (a_pieces_show : mg "pieces_show" = some (.ref x_pieces_show)) (GX_are_wavy : FnOk P w K mg base (CXx P w) 3 x_are_wavy d_are_wavy ["row", "step", "places"] (spX K 3 xm_are_wavy)) (GX_how_long : FnOk P w K mg base (CXx P w) 4 x_how_long d_how_long ["row", "step"] (spX K 2 xm_how_long)) (GX_longest : FnOk P w K mg base (CXx P w) 3 x_longest d_longest ["row", "step"] (spX K 2 xm_longest)) (GX_pieces_of : FnOk P w K mg base (CXx P w) 2 x_pieces_of d_pieces_of ["row", "step"] (spX K 2 xm_pieces_of)) (GX_pieces_show : FnOk P w K mg base (CXx P w) 3 x_pieces_show d_pieces_show ["row", "step", "paper"] (spX K 3 xm_pieces_show)) {y_WaveError : Addr} (a_WaveError : mg "WaveError" = some (.ref y_WaveError)) (hcl_WaveError : ∀ c ∈ (["NoStep"] : List Str), ∀ C, XC K c C → PySem.W.exmOne K (.ref C) (.ref y_WaveError) = some true) (z_list : mg "list" = none) : FnOk P w K mg base CX0 5 f fd ["door", "row", "step", "places"] (spR K 4 m_law_refused) :=
  Fn.okD (k := 4) (m := b_law_refused) sc_law_refused fun cdv A outer s H E hr => (pssd_cons (psd_set (i := 4) sc_law_refused.nd rfl (by first | exact Or.inl rfl | exact Or.inr rfl) (pf_pd (pf_lst pas_nil))) (pssd_cons (psd_set (i := 5) sc_law_refused.nd rfl (by first | exact Or.inl rfl | exact Or.inr rfl) (pf_pd (pf_lst (pas_cons (pf_pd (pf_list rfl z_list (pb_var 1 (pv 1)) PyProof.Rows.boot_list)) (pas_cons (pf_pd (pf_list rfl z_list (pb_var 3 (pv 3)) PyProof.Rows.boot_list)) pas_nil))))) (pssd_cons (psd_try (names := ["NoStep"]) (i := 6) rfl ⟨rfl, rfl, rfl⟩ rfl a_WaveError hcl_WaveError sc_law_refused.nd rfl rfl (pssd_one (psd_if (pc_cmp op_eq opd_eqS (pd_var 0 (pv 0)) pd_int (nomark _)) (pssd_one (psd_expr (pd_call (fun t ha => pe_call (G_are_wavy.mono (by decide)) hr rfl a_are_wavy k_are_wavy b_are_wavy .nil pass0 ha) rfl (pas_cons (pd_ix (pb_var 5 (pv 5)) pd_int) (pas_cons (pd_var 2 (pv 2)) (pas_cons (pd_ix (pb_var 5 (pv 5)) pd_int) pas_nil))) (acons_len (acons_len (acons_len anil_len)))))) (pssd_one (psd_if (pc_cmp op_eq opd_eqS (pd_var 0 (pv 0)) pd_int (nomark _)) (pssd_one (psd_expr (pd_call (fun t ha => pe_call (G_longest.mono (by decide)) hr rfl a_longest k_longest b_longest .nil pass0 ha) rfl (pas_cons (pd_ix (pb_var 5 (pv 5)) pd_int) (pas_cons (pd_var 2 (pv 2)) pas_nil)) (acons_len (acons_len anil_len))))) (pssd_one (psd_if (pc_cmp op_eq opd_eqS (pd_var 0 (pv 0)) pd_int (nomark _)) (pssd_one (psd_expr (pd_call (fun t ha => pe_call (G_how_long.mono (by decide)) hr rfl a_how_long k_how_long b_how_long .nil pass0 ha) rfl (pas_cons (pd_ix (pb_var 5 (pv 5)) pd_int) (pas_cons (pd_var 2 (pv 2)) pas_nil)) (acons_len (acons_len anil_len))))) (pssd_one (psd_if (pc_cmp op_eq opd_eqS (pd_var 0 (pv 0)) pd_int (nomark _)) (pssd_one (psd_expr (pd_call (fun t ha => pe_call (G_pieces_of.mono (by decide)) hr rfl a_pieces_of k_pieces_of b_pieces_of .nil pass0 ha) rfl (pas_cons (pd_ix (pb_var 5 (pv 5)) pd_int) (pas_cons (pd_var 2 (pv 2)) pas_nil)) (acons_len (acons_len anil_len))))) (pssd_one (psd_expr (pd_call (fun t ha => pe_call (G_pieces_show.mono (by decide)) hr rfl a_pieces_show k_pieces_show b_pieces_show .nil pass0 ha) rfl (pas_cons (pd_ix (pb_var 5 (pv 5)) pd_int) (pas_cons (pd_var 2 (pv 2)) (pas_cons (pd_tup (pas_cons (pd_ix (pf_pb (pf_lst (pas_cons pd_str (pas_cons pd_str (pas_cons pd_str pas_nil))))) (pd_sub (pd_var 0 (pv 0)) pd_int)) (pas_cons (pd_ix (pb_var 5 (pv 5)) pd_int) pas_nil))) pas_nil))) (acons_len (acons_len (acons_len anil_len)))))))))))))) (pssx_one (psx_if rfl (pc_cmp op_eq opd_eqS (pd_var 0 (pv 0)) pd_int (nomark _)) (pssx_one (psx_expr (pex_call rfl ⟨rfl, rfl, rfl⟩ (GX_are_wavy.mono (by decide)) hr rfl a_are_wavy k_are_wavy b_are_wavy rfl (pas_cons (pd_ix (pb_var 5 (pv 5)) pd_int) (pas_cons (pd_var 2 (pv 2)) (pas_cons (pd_ix (pb_var 5 (pv 5)) pd_int) pas_nil))) (acons_len (acons_len (acons_len anil_len)))))) (pssx_one (psx_if rfl (pc_cmp op_eq opd_eqS (pd_var 0 (pv 0)) pd_int (nomark _)) (pssx_one (psx_expr (pex_call rfl ⟨rfl, rfl, rfl⟩ (GX_longest.mono (by decide)) hr rfl a_longest k_longest b_longest rfl (pas_cons (pd_ix (pb_var 5 (pv 5)) pd_int) (pas_cons (pd_var 2 (pv 2)) pas_nil)) (acons_len (acons_len anil_len))))) (pssx_one (psx_if rfl (pc_cmp op_eq opd_eqS (pd_var 0 (pv 0)) pd_int (nomark _)) (pssx_one (psx_expr (pex_call rfl ⟨rfl, rfl, rfl⟩ (GX_how_long.mono (by decide)) hr rfl a_how_long k_how_long b_how_long rfl (pas_cons (pd_ix (pb_var 5 (pv 5)) pd_int) (pas_cons (pd_var 2 (pv 2)) pas_nil)) (acons_len (acons_len anil_len))))) (pssx_one (psx_if rfl (pc_cmp op_eq opd_eqS (pd_var 0 (pv 0)) pd_int (nomark _)) (pssx_one (psx_expr (pex_call rfl ⟨rfl, rfl, rfl⟩ (GX_pieces_of.mono (by decide)) hr rfl a_pieces_of k_pieces_of b_pieces_of rfl (pas_cons (pd_ix (pb_var 5 (pv 5)) pd_int) (pas_cons (pd_var 2 (pv 2)) pas_nil)) (acons_len (acons_len anil_len))))) (pssx_one (psx_expr (pex_call rfl ⟨rfl, rfl, rfl⟩ (GX_pieces_show.mono (by decide)) hr rfl a_pieces_show k_pieces_show b_pieces_show rfl (pas_cons (pd_ix (pb_var 5 (pv 5)) pd_int) (pas_cons (pd_var 2 (pv 2)) (pas_cons (pd_tup (pas_cons (pd_ix (pf_pb (pf_lst (pas_cons pd_str (pas_cons pd_str (pas_cons pd_str pas_nil))))) (pd_sub (pd_var 0 (pv 0)) pd_int)) (pas_cons (pd_ix (pb_var 5 (pv 5)) pd_int) pas_nil))) pas_nil))) (acons_len (acons_len (acons_len anil_len)))))))))))))) (fun a => (pssd_one (psd_set (i := 4) sc_law_refused.nd rfl (by first | exact Or.inl rfl | exact Or.inr rfl) (pd_call (fun t ha => pe_callN (G_law_flags.mono (by decide)) (hr.mark _) rfl a_law_flags k_law_flags b_law_flags .nil pass0 ha) rfl (pas_cons (pd_var 6 (pv 6)) pas_nil) (acons_len anil_len)))))) (pssd_cons (psd_if (pc_eqB (op_neF hr.units) (pb_var 5 (pv 5)) (pf_pb (pf_lst (pas_cons (pd_var 1 (pv 1)) (pas_cons (pd_var 3 (pv 3)) pas_nil)))) (nomark _)) (pssd_one (psd_retF (pf_lst (pas_cons pd_str pas_nil)))) pssd_nil) (pssd_one (psd_retO 4 (pv 4)))))))
noncomputable abbrev s_law : Stmt := top 34
noncomputable abbrev N_law : List Str := ["script", "cell", "row", "step", "places", "none", "some", "door"]
theorem sc_law : FnScope N_law ["script"] (defScope s_law) := ⟨rfl, rfl, rfl, by decide +kernel, rfl, by decide +kernel, by decide +kernel⟩
theorem nd_law_0 : List.Nodup (["k"] : List Str) := by decide +kernel
theorem nd_law_1 : List.Nodup (["door", "row", "step", "places"] : List Str) := by decide +kernel
theorem ok_law {P : Program} {w : World} {K : PySem.W.Frag} {mg : Str → Option Value} {base : Heap} {f : Addr} {fd : FuncData} {x_law_by_turns : Addr} {d_law_by_turns : FuncData} {x_law_cells : Addr} {d_law_cells : FuncData} {x_law_far : Addr} {d_law_far : FuncData} {x_law_refused : Addr} {d_law_refused : FuncData} {x_law_row : Addr} {d_law_row : FuncData} {x_law_step : Addr} {d_law_step : FuncData} (Fn : Fun K "law" "law" s_law f fd) (G_law_by_turns : FnOk P w K mg base CX0 2 x_law_by_turns d_law_by_turns ["cell", "k", "row", "step"] (spR K 4 m_law_by_turns)) (b_law_by_turns : Binds K d_law_by_turns ["cell", "k", "row", "step"] []) (k_law_by_turns : PySem.W.keepIn K (.ref x_law_by_turns) = true) (a_law_by_turns : mg "_law_by_turns" = some (.ref x_law_by_turns)) (G_law_cells : FnOk P w K mg base CX0 1 x_law_cells d_law_cells ["script", "many"] (spR K 2 m_law_cells)) (b_law_cells : Binds K d_law_cells ["script", "many"] []) (k_law_cells : PySem.W.keepIn K (.ref x_law_cells) = true) (a_law_cells : mg "_law_cells" = some (.ref x_law_cells)) (G_law_far : FnOk P w K mg base CX0 2 x_law_far d_law_far ["cell", "k"] (spR K 2 m_law_far)) (b_law_far : Binds K d_law_far ["cell", "k"] []) (k_law_far : PySem.W.keepIn K (.ref x_law_far) = true) (a_law_far : mg "_law_far" = some (.ref x_law_far)) (G_law_refused : FnOk P w K mg base CX0 5 x_law_refused d_law_refused ["door", "row", "step", "places"] (spR K 4 m_law_refused)) (b_law_refused : Binds K d_law_refused ["door", "row", "step", "places"] []) (k_law_refused : PySem.W.keepIn K (.ref x_law_refused) = true) (a_law_refused : mg "_law_refused" = some (.ref x_law_refused)) (G_law_row : FnOk P w K mg base CX0 2 x_law_row d_law_row ["cell", "most"] (spR K 2 m_law_row)) (b_law_row : Binds K d_law_row ["cell", "most"] []) (k_law_row : PySem.W.keepIn K (.ref x_law_row) = true) (a_law_row : mg "_law_row" = some (.ref x_law_row)) (G_law_step : FnOk P w K mg base CX0 2 x_law_step d_law_step ["cell"] (spR K 1 m_law_step)) (b_law_step : Binds K d_law_step ["cell"] []) (k_law_step : PySem.W.keepIn K (.ref x_law_step) = true) (a_law_step : mg "_law_step" = some (.ref x_law_step)) (z_len : mg "len" = none) (z_range : mg "range" = none) : FnOk P w K mg base CX0 6 f fd ["script"] (spR K 1 m_law) :=
  Fn.okD (k := 5) (m := b_law) sc_law fun cdv A outer s H E hr => (pssd_cons (psd_for PassesOwn.never rfl (pid_seq (pd_call (fun t ha => pe_call (G_law_cells.mono (by decide)) hr rfl a_law_cells k_law_cells b_law_cells .nil pass0 ha) rfl (pas_cons (pd_var 0 (pv 0)) (pas_cons pd_int pas_nil)) (acons_len (acons_len anil_len)))) (pgd_name (i := 1) (pg_name sc_law.nd rfl (by first | exact Or.inl rfl | exact Or.inr rfl))) (pssd_cons (psd_set (i := 2) sc_law.nd rfl (by first | exact Or.inl rfl | exact Or.inr rfl) (pd_call (fun t ha => pe_call (G_law_row.mono (by decide)) hr rfl a_law_row k_law_row b_law_row .nil pass0 ha) rfl (pas_cons (pd_var 1 (pv 1)) (pas_cons pd_int pas_nil)) (acons_len (acons_len anil_len)))) (pssd_cons (psd_set (i := 3) sc_law.nd rfl (by first | exact Or.inl rfl | exact Or.inr rfl) (pd_call (fun t ha => pe_call (G_law_step.mono (by decide)) hr rfl a_law_step k_law_step b_law_step .nil pass0 ha) rfl (pas_cons (pd_var 1 (pv 1)) pas_nil) (acons_len anil_len))) (pssd_cons (psd_set (i := 4) sc_law.nd rfl (by first | exact Or.inl rfl | exact Or.inr rfl) (pd_call (fun t ha => pe_call (G_law_by_turns.mono (by decide)) hr rfl a_law_by_turns k_law_by_turns b_law_by_turns .nil pass0 ha) rfl (pas_cons (pd_var 1 (pv 1)) (pas_cons pd_int (pas_cons (pd_var 2 (pv 2)) (pas_cons (pd_var 3 (pv 3)) pas_nil)))) (acons_len (acons_len (acons_len (acons_len anil_len)))))) (pssd_cons (psd_for PassesOwn.never rfl (pid_seq (pf_pd (pf_lst (pas_cons pd_int (pas_cons (pd_neg pd_int) (pas_cons (pd_sub pd_int (pd_call (fun t ha => pe_call (G_law_far.mono (by decide)) hr rfl a_law_far k_law_far b_law_far .nil pass0 ha) rfl (pas_cons (pd_var 1 (pv 1)) (pas_cons pd_int pas_nil)) (acons_len (acons_len anil_len)))) (pas_cons (pd_sub pd_int (pd_var 3 (pv 3))) pas_nil))))))) (pgd_name (i := 5) (pg_name sc_law.nd rfl (by first | exact Or.inl rfl | exact Or.inr rfl))) (pssd_one (psd_for PassesOwn.never rfl (pid_seq (pf_pd (pf_lst (pas_cons (pd_var 4 (pv 4)) (pas_cons (pf_pd (pf_rev (pb_var 4 (pv 4)) (pos_some (pd_neg pd_int)))) (pas_cons (pf_pd (pf_lst (pas_cons (pd_lenB rfl z_len (pb_var 2 (pv 2))) pas_nil))) (pas_cons (pf_pd (pf_lst (pas_cons (pd_neg pd_int) pas_nil))) (pas_cons (pf_pd (pf_lst pas_nil)) pas_nil)))))))) (pgd_name (i := 6) (pg_name sc_law.nd rfl (by first | exact Or.inl rfl | exact Or.inr rfl))) (pssd_one (psd_for PassesOwn.never rfl (pid_range1 rfl z_range (pas_cons pd_int pas_nil)) (pgd_name (i := 7) (pg_name sc_law.nd rfl (by first | exact Or.inl rfl | exact Or.inr rfl))) (pssd_one (psd_if (pc_eqB (op_neF hr.units) (pd_pb (pd_call (fun t ha => pe_call (G_law_refused.mono (by decide)) hr rfl a_law_refused k_law_refused b_law_refused .nil pass0 ha) rfl (pas_cons (pd_var 7 (pv 7)) (pas_cons (pd_var 2 (pv 2)) (pas_cons (pd_var 5 (pv 5)) (pas_cons (pd_var 6 (pv 6)) pas_nil)))) (acons_len (acons_len (acons_len (acons_len anil_len)))))) (pf_pb (pf_comp (blk_of (N := ["k"]) (src := [none]) (defScope s_law) N_law rfl rfl (by decide +kernel)) rfl (pid_range1 rfl z_range (pas_cons pd_int pas_nil)) (fun C fp s0 H0 => (pgd_name (i := 0) (pg_name nd_law_0 rfl (by first | exact Or.inl rfl | exact Or.inr rfl)))) (fun C fp s0 H0 => ptsd_nil) (fun C fp s0 H0 => (pd_cmp op_eq opd_eqS (pd_var 0 (pv 0)) pd_int (nomark _))))) (nomark _)) (pssd_one (psd_ret pd_bl)) pssd_nil))))))) (pssd_one (psd_if (pc_eqB (op_neF hr.units) (pf_pb (pf_comp (blk_of (N := ["door", "row", "step", "places"]) (src := [none, some 2, some 3, some 4]) (defScope s_law) N_law rfl rfl (by decide +kernel)) rfl (pid_range1 rfl z_range (pas_cons pd_int pas_nil)) (fun C fp s0 H0 => (pgd_name (i := 0) (pg_name nd_law_1 rfl (by first | exact Or.inl rfl | exact Or.inr rfl)))) (fun C fp s0 H0 => (ptsd_one (pc_eqB (op_neF hr.units) (pd_pb (pd_call (fun t ha => pe_call (G_law_refused.mono (by decide)) hr rfl a_law_refused k_law_refused b_law_refused .nil pass0 ha) rfl (pas_cons (pd_var 0 (pv 0)) (pas_cons (pd_var 1 (pv 1)) (pas_cons (pd_var 2 (pv 2)) (pas_cons (pd_var 3 (pv 3)) pas_nil)))) (acons_len (acons_len (acons_len (acons_len anil_len)))))) (pf_pb (pf_lst pas_nil)) (nomark _)))) (fun C fp s0 H0 => (pd_var 0 (pv 0))))) (pf_pb (pf_lst pas_nil)) (nomark _)) (pssd_one (psd_ret pd_bl)) pssd_nil))))))) (pssd_one (psd_ret pd_bl)))
theorem all_mk {l : PySem.W.OpenLaw} {w : World} {K : PySem.W.Frag} {h : Heap} {mg : Str → Option Value} {fa x_refuse_step x_are_places x_turns_of x_go_by_turns x_are_wavy x_tails x_longer_first x_longest x_how_long x_first_break x_are_cuts x_pieces_show x_pieces_of x_law_stir x_law_cells x_law_row x_law_step x_law_flags x_law_far x_law_by_turns x_law_refused x_law : Addr} (X : K.In h) (G : h.Ns mainGlobals mg) (hfa : mg "law" = some (.ref fa)) {o1_refuse_step o2_refuse_step : Option Addr} {sl_refuse_step : Array (Option Value)} {oc_refuse_step kV_refuse_step dc_refuse_step pm_refuse_step cd_refuse_step ct_refuse_step : Value} {o1_are_places o2_are_places : Option Addr} {sl_are_places : Array (Option Value)} {oc_are_places kV_are_places dc_are_places pm_are_places cd_are_places ct_are_places : Value} {o1_turns_of o2_turns_of : Option Addr} {sl_turns_of : Array (Option Value)} {oc_turns_of kV_turns_of dc_turns_of pm_turns_of cd_turns_of ct_turns_of : Value} {o1_go_by_turns o2_go_by_turns : Option Addr} {sl_go_by_turns : Array (Option Value)} {oc_go_by_turns kV_go_by_turns dc_go_by_turns pm_go_by_turns cd_go_by_turns ct_go_by_turns : Value} {o1_are_wavy o2_are_wavy : Option Addr} {sl_are_wavy : Array (Option Value)} {oc_are_wavy kV_are_wavy dc_are_wavy pm_are_wavy cd_are_wavy ct_are_wavy : Value} {o1_tails o2_tails : Option Addr} {sl_tails : Array (Option Value)} {oc_tails kV_tails dc_tails pm_tails cd_tails ct_tails : Value} {o1_longer_first o2_longer_first : Option Addr} {sl_longer_first : Array (Option Value)} {oc_longer_first kV_longer_first dc_longer_first pm_longer_first cd_longer_first ct_longer_first : Value} {o1_longest o2_longest : Option Addr} {sl_longest : Array (Option Value)} {oc_longest kV_longest dc_longest pm_longest cd_longest ct_longest : Value} {o1_how_long o2_how_long : Option Addr} {sl_how_long : Array (Option Value)} {oc_how_long kV_how_long dc_how_long pm_how_long cd_how_long ct_how_long : Value} {o1_first_break o2_first_break : Option Addr} {sl_first_break : Array (Option Value)} {oc_first_break kV_first_break dc_first_break pm_first_break cd_first_break ct_first_break : Value} {o1_are_cuts o2_are_cuts : Option Addr} {sl_are_cuts : Array (Option Value)} {oc_are_cuts kV_are_cuts dc_are_cuts pm_are_cuts cd_are_cuts ct_are_cuts : Value} {o1_pieces_show o2_pieces_show : Option Addr} {sl_pieces_show : Array (Option Value)} {oc_pieces_show kV_pieces_show dc_pieces_show pm_pieces_show cd_pieces_show ct_pieces_show : Value} {o1_pieces_of o2_pieces_of : Option Addr} {sl_pieces_of : Array (Option Value)} {oc_pieces_of kV_pieces_of dc_pieces_of pm_pieces_of cd_pieces_of ct_pieces_of : Value} {o1_law_stir o2_law_stir : Option Addr} {sl_law_stir : Array (Option Value)} {oc_law_stir kV_law_stir dc_law_stir pm_law_stir cd_law_stir ct_law_stir : Value} {o1_law_cells o2_law_cells : Option Addr} {sl_law_cells : Array (Option Value)} {oc_law_cells kV_law_cells dc_law_cells pm_law_cells cd_law_cells ct_law_cells : Value} {o1_law_row o2_law_row : Option Addr} {sl_law_row : Array (Option Value)} {oc_law_row kV_law_row dc_law_row pm_law_row cd_law_row ct_law_row : Value} {o1_law_step o2_law_step : Option Addr} {sl_law_step : Array (Option Value)} {oc_law_step kV_law_step dc_law_step pm_law_step cd_law_step ct_law_step : Value} {o1_law_flags o2_law_flags : Option Addr} {sl_law_flags : Array (Option Value)} {oc_law_flags kV_law_flags dc_law_flags pm_law_flags cd_law_flags ct_law_flags : Value} {o1_law_far o2_law_far : Option Addr} {sl_law_far : Array (Option Value)} {oc_law_far kV_law_far dc_law_far pm_law_far cd_law_far ct_law_far : Value} {o1_law_by_turns o2_law_by_turns : Option Addr} {sl_law_by_turns : Array (Option Value)} {oc_law_by_turns kV_law_by_turns dc_law_by_turns pm_law_by_turns cd_law_by_turns ct_law_by_turns : Value} {o1_law_refused o2_law_refused : Option Addr} {sl_law_refused : Array (Option Value)} {oc_law_refused kV_law_refused dc_law_refused pm_law_refused cd_law_refused ct_law_refused : Value} {o1_law o2_law : Option Addr} {sl_law : Array (Option Value)} {oc_law kV_law dc_law pm_law cd_law ct_law : Value}
    (e_refuse_step : PySem.W.nsIn K mainGlobals "refuse_step" = some (some (.ref x_refuse_step))) (l_refuse_step : K.lookup x_refuse_step = some ⟨oc_refuse_step, o1_refuse_step, .func (PySem.W.fnOf "refuse_step" "refuse_step" (defArgs s_refuse_step) (defBody s_refuse_step) (defScope s_refuse_step) .none kV_refuse_step dc_refuse_step pm_refuse_step o2_refuse_step cd_refuse_step ct_refuse_step), sl_refuse_step⟩) (c_refuse_step : PySem.W.codeIn K cd_refuse_step "refuse_step" = true) (k_refuse_step : PySem.W.keepIn K (.ref x_refuse_step) = true)
    (e_are_places : PySem.W.nsIn K mainGlobals "are_places" = some (some (.ref x_are_places))) (l_are_places : K.lookup x_are_places = some ⟨oc_are_places, o1_are_places, .func (PySem.W.fnOf "are_places" "are_places" (defArgs s_are_places) (defBody s_are_places) (defScope s_are_places) .none kV_are_places dc_are_places pm_are_places o2_are_places cd_are_places ct_are_places), sl_are_places⟩) (c_are_places : PySem.W.codeIn K cd_are_places "are_places" = true) (k_are_places : PySem.W.keepIn K (.ref x_are_places) = true)
    (e_turns_of : PySem.W.nsIn K mainGlobals "turns_of" = some (some (.ref x_turns_of))) (l_turns_of : K.lookup x_turns_of = some ⟨oc_turns_of, o1_turns_of, .func (PySem.W.fnOf "turns_of" "turns_of" (defArgs s_turns_of) (defBody s_turns_of) (defScope s_turns_of) .none kV_turns_of dc_turns_of pm_turns_of o2_turns_of cd_turns_of ct_turns_of), sl_turns_of⟩) (c_turns_of : PySem.W.codeIn K cd_turns_of "turns_of" = true) (k_turns_of : PySem.W.keepIn K (.ref x_turns_of) = true)
    (e_go_by_turns : PySem.W.nsIn K mainGlobals "go_by_turns" = some (some (.ref x_go_by_turns))) (l_go_by_turns : K.lookup x_go_by_turns = some ⟨oc_go_by_turns, o1_go_by_turns, .func (PySem.W.fnOf "go_by_turns" "go_by_turns" (defArgs s_go_by_turns) (defBody s_go_by_turns) (defScope s_go_by_turns) .none kV_go_by_turns dc_go_by_turns pm_go_by_turns o2_go_by_turns cd_go_by_turns ct_go_by_turns), sl_go_by_turns⟩) (c_go_by_turns : PySem.W.codeIn K cd_go_by_turns "go_by_turns" = true) (k_go_by_turns : PySem.W.keepIn K (.ref x_go_by_turns) = true)
    (e_are_wavy : PySem.W.nsIn K mainGlobals "are_wavy" = some (some (.ref x_are_wavy))) (l_are_wavy : K.lookup x_are_wavy = some ⟨oc_are_wavy, o1_are_wavy, .func (PySem.W.fnOf "are_wavy" "are_wavy" (defArgs s_are_wavy) (defBody s_are_wavy) (defScope s_are_wavy) .none kV_are_wavy dc_are_wavy pm_are_wavy o2_are_wavy cd_are_wavy ct_are_wavy), sl_are_wavy⟩) (c_are_wavy : PySem.W.codeIn K cd_are_wavy "are_wavy" = true) (k_are_wavy : PySem.W.keepIn K (.ref x_are_wavy) = true)
    (e_tails : PySem.W.nsIn K mainGlobals "tails" = some (some (.ref x_tails))) (l_tails : K.lookup x_tails = some ⟨oc_tails, o1_tails, .func (PySem.W.fnOf "tails" "tails" (defArgs s_tails) (defBody s_tails) (defScope s_tails) .none kV_tails dc_tails pm_tails o2_tails cd_tails ct_tails), sl_tails⟩) (c_tails : PySem.W.codeIn K cd_tails "tails" = true) (k_tails : PySem.W.keepIn K (.ref x_tails) = true)
    (e_longer_first : PySem.W.nsIn K mainGlobals "longer_first" = some (some (.ref x_longer_first))) (l_longer_first : K.lookup x_longer_first = some ⟨oc_longer_first, o1_longer_first, .func (PySem.W.fnOf "longer_first" "longer_first" (defArgs s_longer_first) (defBody s_longer_first) (defScope s_longer_first) .none kV_longer_first dc_longer_first pm_longer_first o2_longer_first cd_longer_first ct_longer_first), sl_longer_first⟩) (c_longer_first : PySem.W.codeIn K cd_longer_first "longer_first" = true) (k_longer_first : PySem.W.keepIn K (.ref x_longer_first) = true)
    (e_longest : PySem.W.nsIn K mainGlobals "longest" = some (some (.ref x_longest))) (l_longest : K.lookup x_longest = some ⟨oc_longest, o1_longest, .func (PySem.W.fnOf "longest" "longest" (defArgs s_longest) (defBody s_longest) (defScope s_longest) .none kV_longest dc_longest pm_longest o2_longest cd_longest ct_longest), sl_longest⟩) (c_longest : PySem.W.codeIn K cd_longest "longest" = true) (k_longest : PySem.W.keepIn K (.ref x_longest) = true)
    (e_how_long : PySem.W.nsIn K mainGlobals "how_long" = some (some (.ref x_how_long))) (l_how_long : K.lookup x_how_long = some ⟨oc_how_long, o1_how_long, .func (PySem.W.fnOf "how_long" "how_long" (defArgs s_how_long) (defBody s_how_long) (defScope s_how_long) .none kV_how_long dc_how_long pm_how_long o2_how_long cd_how_long ct_how_long), sl_how_long⟩) (c_how_long : PySem.W.codeIn K cd_how_long "how_long" = true) (k_how_long : PySem.W.keepIn K (.ref x_how_long) = true)
    (e_first_break : PySem.W.nsIn K mainGlobals "first_break" = some (some (.ref x_first_break))) (l_first_break : K.lookup x_first_break = some ⟨oc_first_break, o1_first_break, .func (PySem.W.fnOf "first_break" "first_break" (defArgs s_first_break) (defBody s_first_break) (defScope s_first_break) .none kV_first_break dc_first_break pm_first_break o2_first_break cd_first_break ct_first_break), sl_first_break⟩) (c_first_break : PySem.W.codeIn K cd_first_break "first_break" = true) (k_first_break : PySem.W.keepIn K (.ref x_first_break) = true)
    (e_are_cuts : PySem.W.nsIn K mainGlobals "are_cuts" = some (some (.ref x_are_cuts))) (l_are_cuts : K.lookup x_are_cuts = some ⟨oc_are_cuts, o1_are_cuts, .func (PySem.W.fnOf "are_cuts" "are_cuts" (defArgs s_are_cuts) (defBody s_are_cuts) (defScope s_are_cuts) .none kV_are_cuts dc_are_cuts pm_are_cuts o2_are_cuts cd_are_cuts ct_are_cuts), sl_are_cuts⟩) (c_are_cuts : PySem.W.codeIn K cd_are_cuts "are_cuts" = true) (k_are_cuts : PySem.W.keepIn K (.ref x_are_cuts) = true)
    (e_pieces_show : PySem.W.nsIn K mainGlobals "pieces_show" = some (some (.ref x_pieces_show))) (l_pieces_show : K.lookup x_pieces_show = some ⟨oc_pieces_show, o1_pieces_show, .func (PySem.W.fnOf "pieces_show" "pieces_show" (defArgs s_pieces_show) (defBody s_pieces_show) (defScope s_pieces_show) .none kV_pieces_show dc_pieces_show pm_pieces_show o2_pieces_show cd_pieces_show ct_pieces_show), sl_pieces_show⟩) (c_pieces_show : PySem.W.codeIn K cd_pieces_show "pieces_show" = true) (k_pieces_show : PySem.W.keepIn K (.ref x_pieces_show) = true)
    (e_pieces_of : PySem.W.nsIn K mainGlobals "pieces_of" = some (some (.ref x_pieces_of))) (l_pieces_of : K.lookup x_pieces_of = some ⟨oc_pieces_of, o1_pieces_of, .func (PySem.W.fnOf "pieces_of" "pieces_of" (defArgs s_pieces_of) (defBody s_pieces_of) (defScope s_pieces_of) .none kV_pieces_of dc_pieces_of pm_pieces_of o2_pieces_of cd_pieces_of ct_pieces_of), sl_pieces_of⟩) (c_pieces_of : PySem.W.codeIn K cd_pieces_of "pieces_of" = true) (k_pieces_of : PySem.W.keepIn K (.ref x_pieces_of) = true)
    (e_law_stir : PySem.W.nsIn K mainGlobals "_law_stir" = some (some (.ref x_law_stir))) (l_law_stir : K.lookup x_law_stir = some ⟨oc_law_stir, o1_law_stir, .func (PySem.W.fnOf "_law_stir" "_law_stir" (defArgs s_law_stir) (defBody s_law_stir) (defScope s_law_stir) .none kV_law_stir dc_law_stir pm_law_stir o2_law_stir cd_law_stir ct_law_stir), sl_law_stir⟩) (c_law_stir : PySem.W.codeIn K cd_law_stir "_law_stir" = true) (k_law_stir : PySem.W.keepIn K (.ref x_law_stir) = true)
    (e_law_cells : PySem.W.nsIn K mainGlobals "_law_cells" = some (some (.ref x_law_cells))) (l_law_cells : K.lookup x_law_cells = some ⟨oc_law_cells, o1_law_cells, .func (PySem.W.fnOf "_law_cells" "_law_cells" (defArgs s_law_cells) (defBody s_law_cells) (defScope s_law_cells) .none kV_law_cells dc_law_cells pm_law_cells o2_law_cells cd_law_cells ct_law_cells), sl_law_cells⟩) (c_law_cells : PySem.W.codeIn K cd_law_cells "_law_cells" = true) (k_law_cells : PySem.W.keepIn K (.ref x_law_cells) = true)
    (e_law_row : PySem.W.nsIn K mainGlobals "_law_row" = some (some (.ref x_law_row))) (l_law_row : K.lookup x_law_row = some ⟨oc_law_row, o1_law_row, .func (PySem.W.fnOf "_law_row" "_law_row" (defArgs s_law_row) (defBody s_law_row) (defScope s_law_row) .none kV_law_row dc_law_row pm_law_row o2_law_row cd_law_row ct_law_row), sl_law_row⟩) (c_law_row : PySem.W.codeIn K cd_law_row "_law_row" = true) (k_law_row : PySem.W.keepIn K (.ref x_law_row) = true)
    (e_law_step : PySem.W.nsIn K mainGlobals "_law_step" = some (some (.ref x_law_step))) (l_law_step : K.lookup x_law_step = some ⟨oc_law_step, o1_law_step, .func (PySem.W.fnOf "_law_step" "_law_step" (defArgs s_law_step) (defBody s_law_step) (defScope s_law_step) .none kV_law_step dc_law_step pm_law_step o2_law_step cd_law_step ct_law_step), sl_law_step⟩) (c_law_step : PySem.W.codeIn K cd_law_step "_law_step" = true) (k_law_step : PySem.W.keepIn K (.ref x_law_step) = true)
    (e_law_flags : PySem.W.nsIn K mainGlobals "_law_flags" = some (some (.ref x_law_flags))) (l_law_flags : K.lookup x_law_flags = some ⟨oc_law_flags, o1_law_flags, .func (PySem.W.fnOf "_law_flags" "_law_flags" (defArgs s_law_flags) (defBody s_law_flags) (defScope s_law_flags) .none kV_law_flags dc_law_flags pm_law_flags o2_law_flags cd_law_flags ct_law_flags), sl_law_flags⟩) (c_law_flags : PySem.W.codeIn K cd_law_flags "_law_flags" = true) (k_law_flags : PySem.W.keepIn K (.ref x_law_flags) = true)
    (e_law_far : PySem.W.nsIn K mainGlobals "_law_far" = some (some (.ref x_law_far))) (l_law_far : K.lookup x_law_far = some ⟨oc_law_far, o1_law_far, .func (PySem.W.fnOf "_law_far" "_law_far" (defArgs s_law_far) (defBody s_law_far) (defScope s_law_far) .none kV_law_far dc_law_far pm_law_far o2_law_far cd_law_far ct_law_far), sl_law_far⟩) (c_law_far : PySem.W.codeIn K cd_law_far "_law_far" = true) (k_law_far : PySem.W.keepIn K (.ref x_law_far) = true)
    (e_law_by_turns : PySem.W.nsIn K mainGlobals "_law_by_turns" = some (some (.ref x_law_by_turns))) (l_law_by_turns : K.lookup x_law_by_turns = some ⟨oc_law_by_turns, o1_law_by_turns, .func (PySem.W.fnOf "_law_by_turns" "_law_by_turns" (defArgs s_law_by_turns) (defBody s_law_by_turns) (defScope s_law_by_turns) .none kV_law_by_turns dc_law_by_turns pm_law_by_turns o2_law_by_turns cd_law_by_turns ct_law_by_turns), sl_law_by_turns⟩) (c_law_by_turns : PySem.W.codeIn K cd_law_by_turns "_law_by_turns" = true) (k_law_by_turns : PySem.W.keepIn K (.ref x_law_by_turns) = true)
    (e_law_refused : PySem.W.nsIn K mainGlobals "_law_refused" = some (some (.ref x_law_refused))) (l_law_refused : K.lookup x_law_refused = some ⟨oc_law_refused, o1_law_refused, .func (PySem.W.fnOf "_law_refused" "_law_refused" (defArgs s_law_refused) (defBody s_law_refused) (defScope s_law_refused) .none kV_law_refused dc_law_refused pm_law_refused o2_law_refused cd_law_refused ct_law_refused), sl_law_refused⟩) (c_law_refused : PySem.W.codeIn K cd_law_refused "_law_refused" = true) (k_law_refused : PySem.W.keepIn K (.ref x_law_refused) = true)
    (e_law : PySem.W.nsIn K mainGlobals "law" = some (some (.ref x_law))) (l_law : K.lookup x_law = some ⟨oc_law, o1_law, .func (PySem.W.fnOf "law" "law" (defArgs s_law) (defBody s_law) (defScope s_law) .none kV_law dc_law pm_law o2_law cd_law ct_law), sl_law⟩) (c_law : PySem.W.codeIn K cd_law "law" = true) (k_law : PySem.W.keepIn K (.ref x_law) = true)
    {y_OTHER_KIND : Addr} {es_OTHER_KIND : Array DictEntry} {ep_OTHER_KIND} (e_OTHER_KIND : PySem.W.nsIn K mainGlobals "OTHER_KIND" = some (some (.ref y_OTHER_KIND))) (l_OTHER_KIND : K.lookup y_OTHER_KIND = some ⟨.type "dict", none, .dict es_OTHER_KIND ep_OTHER_KIND, #[]⟩) (n_OTHER_KIND : (y_OTHER_KIND == sysModules) = false) (v_OTHER_KIND : tabVs tab_OTHER_KIND es_OTHER_KIND.toList) (h_OTHER_KIND : ∀ e ∈ es_OTHER_KIND.toList, ∀ k t, e.key = .str k t → e.hash = hashStr w k) {y_NoForm : Addr} {y_NoNumber : Addr} {y_NoPlace : Addr} {y_NoStep : Addr} {y_NoText : Addr} {y_NoWeights : Addr} {y_NoneYet : Addr} {y_WaveError : Addr}
    (e_NoForm : PySem.W.nsIn K mainGlobals "NoForm" = some (some (.ref y_NoForm)))
    (e_NoNumber : PySem.W.nsIn K mainGlobals "NoNumber" = some (some (.ref y_NoNumber)))
    (e_NoPlace : PySem.W.nsIn K mainGlobals "NoPlace" = some (some (.ref y_NoPlace)))
    (e_NoStep : PySem.W.nsIn K mainGlobals "NoStep" = some (some (.ref y_NoStep)))
    (e_NoText : PySem.W.nsIn K mainGlobals "NoText" = some (some (.ref y_NoText)))
    (e_NoWeights : PySem.W.nsIn K mainGlobals "NoWeights" = some (some (.ref y_NoWeights)))
    (e_NoneYet : PySem.W.nsIn K mainGlobals "NoneYet" = some (some (.ref y_NoneYet)))
    (e_WaveError : PySem.W.nsIn K mainGlobals "WaveError" = some (some (.ref y_WaveError)))
    (n_NoStep : xName K y_NoStep = some "NoStep")
    (q_NoStep : PySem.W.excIn K y_NoStep bmV "ValueError.__new__" = true)
    (w_NoStep : xclsB K y_NoStep = true)
    (m_NoStep_WaveError : PySem.W.exmOne K (.ref y_NoStep) (.ref y_WaveError) = some true)
    (i_NoStep_NoForm : PySem.W.kitOne K (.ref y_NoStep) (.ref y_NoForm) = some false)
    (i_NoStep_NoNumber : PySem.W.kitOne K (.ref y_NoStep) (.ref y_NoNumber) = some false)
    (i_NoStep_NoPlace : PySem.W.kitOne K (.ref y_NoStep) (.ref y_NoPlace) = some false)
    (i_NoStep_NoStep : PySem.W.kitOne K (.ref y_NoStep) (.ref y_NoStep) = some true)
    (i_NoStep_NoText : PySem.W.kitOne K (.ref y_NoStep) (.ref y_NoText) = some false)
    (i_NoStep_NoWeights : PySem.W.kitOne K (.ref y_NoStep) (.ref y_NoWeights) = some false)
    (i_NoStep_NoneYet : PySem.W.kitOne K (.ref y_NoStep) (.ref y_NoneYet) = some false)
    (j_NoStep_ValueError : PySem.W.kitOne K (.ref y_NoStep) (.type "ValueError") = some true)
    (y_ValueError : PySem.W.nsIn K mainGlobals "ValueError" = some none)
    (y_abs : PySem.W.nsIn K mainGlobals "abs" = some none)
    (y_enumerate : PySem.W.nsIn K mainGlobals "enumerate" = some none)
    (y_isinstance : PySem.W.nsIn K mainGlobals "isinstance" = some none)
    (y_len : PySem.W.nsIn K mainGlobals "len" = some none)
    (y_list : PySem.W.nsIn K mainGlobals "list" = some none)
    (y_max : PySem.W.nsIn K mainGlobals "max" = some none)
    (y_min : PySem.W.nsIn K mainGlobals "min" = some none)
    (y_range : PySem.W.nsIn K mainGlobals "range" = some none)
    (y_reversed : PySem.W.nsIn K mainGlobals "reversed" = some none)
    (y_zip : PySem.W.nsIn K mainGlobals "zip" = some none) :
    ∃ fd : FuncData, (∀ (s : Shared) (v : Value), BindsTo s fd ⟨[v], []⟩ [("script", v)]) ∧ ∀ base : Heap, K.In base → base.Ns mainGlobals mg → FnOk l.prog w K mg base CX0 6 fa fd ["script"] (spR K 1 m_law) := by
  have e := hfa.symm.trans (PySem.W.mg_of X G e_law)
  cases e
  have F_refuse_step := fun_mk (st := s_refuse_step) l_refuse_step c_refuse_step k_refuse_step
  have b_refuse_step := F_refuse_step.binds (ps := ["step"]) fun _ _ _ _ _ _ us hl => match us, hl with | [_], _ => rfl
  have a_refuse_step := PySem.W.mg_of X G e_refuse_step
  have F_are_places := fun_mk (st := s_are_places) l_are_places c_are_places k_are_places
  have b_are_places := F_are_places.binds (ps := ["row", "places"]) fun _ _ _ _ _ _ us hl => match us, hl with | [_, _], _ => rfl
  have a_are_places := PySem.W.mg_of X G e_are_places
  have F_turns_of := fun_mk (st := s_turns_of) l_turns_of c_turns_of k_turns_of
  have b_turns_of := F_turns_of.binds (ps := ["numbers"]) fun _ _ _ _ _ _ us hl => match us, hl with | [_], _ => rfl
  have a_turns_of := PySem.W.mg_of X G e_turns_of
  have F_go_by_turns := fun_mk (st := s_go_by_turns) l_go_by_turns c_go_by_turns k_go_by_turns
  have b_go_by_turns := F_go_by_turns.binds (ps := ["numbers", "step"]) fun _ _ _ _ _ _ us hl => match us, hl with | [_, _], _ => rfl
  have a_go_by_turns := PySem.W.mg_of X G e_go_by_turns
  have F_are_wavy := fun_mk (st := s_are_wavy) l_are_wavy c_are_wavy k_are_wavy
  have b_are_wavy := F_are_wavy.binds (ps := ["row", "step", "places"]) fun _ _ _ _ _ _ us hl => match us, hl with | [_, _, _], _ => rfl
  have a_are_wavy := PySem.W.mg_of X G e_are_wavy
  have F_tails := fun_mk (st := s_tails) l_tails c_tails k_tails
  have b_tails := F_tails.binds (ps := ["row", "step"]) fun _ _ _ _ _ _ us hl => match us, hl with | [_, _], _ => rfl
  have a_tails := PySem.W.mg_of X G e_tails
  have F_longer_first := fun_mk (st := s_longer_first) l_longer_first c_longer_first k_longer_first
  have b_longer_first := F_longer_first.binds (ps := ["places"]) fun _ _ _ _ _ _ us hl => match us, hl with | [_], _ => rfl
  have a_longer_first := PySem.W.mg_of X G e_longer_first
  have F_longest := fun_mk (st := s_longest) l_longest c_longest k_longest
  have b_longest := F_longest.binds (ps := ["row", "step"]) fun _ _ _ _ _ _ us hl => match us, hl with | [_, _], _ => rfl
  have a_longest := PySem.W.mg_of X G e_longest
  have F_how_long := fun_mk (st := s_how_long) l_how_long c_how_long k_how_long
  have b_how_long := F_how_long.binds (ps := ["row", "step"]) fun _ _ _ _ _ _ us hl => match us, hl with | [_, _], _ => rfl
  have a_how_long := PySem.W.mg_of X G e_how_long
  have F_first_break := fun_mk (st := s_first_break) l_first_break c_first_break k_first_break
  have b_first_break := F_first_break.binds (ps := ["row", "step", "kind", "start"]) fun _ _ _ _ _ _ us hl => match us, hl with | [_, _, _, _], _ => rfl
  have a_first_break := PySem.W.mg_of X G e_first_break
  have F_are_cuts := fun_mk (st := s_are_cuts) l_are_cuts c_are_cuts k_are_cuts
  have b_are_cuts := F_are_cuts.binds (ps := ["row", "cuts"]) fun _ _ _ _ _ _ us hl => match us, hl with | [_, _], _ => rfl
  have a_are_cuts := PySem.W.mg_of X G e_are_cuts
  have F_pieces_show := fun_mk (st := s_pieces_show) l_pieces_show c_pieces_show k_pieces_show
  have b_pieces_show := F_pieces_show.binds (ps := ["row", "step", "paper"]) fun _ _ _ _ _ _ us hl => match us, hl with | [_, _, _], _ => rfl
  have a_pieces_show := PySem.W.mg_of X G e_pieces_show
  have F_pieces_of := fun_mk (st := s_pieces_of) l_pieces_of c_pieces_of k_pieces_of
  have b_pieces_of := F_pieces_of.binds (ps := ["row", "step"]) fun _ _ _ _ _ _ us hl => match us, hl with | [_, _], _ => rfl
  have a_pieces_of := PySem.W.mg_of X G e_pieces_of
  have F_law_stir := fun_mk (st := s_law_stir) l_law_stir c_law_stir k_law_stir
  have b_law_stir := F_law_stir.binds (ps := ["cell", "k"]) fun _ _ _ _ _ _ us hl => match us, hl with | [_, _], _ => rfl
  have a_law_stir := PySem.W.mg_of X G e_law_stir
  have F_law_cells := fun_mk (st := s_law_cells) l_law_cells c_law_cells k_law_cells
  have b_law_cells := F_law_cells.binds (ps := ["script", "many"]) fun _ _ _ _ _ _ us hl => match us, hl with | [_, _], _ => rfl
  have a_law_cells := PySem.W.mg_of X G e_law_cells
  have F_law_row := fun_mk (st := s_law_row) l_law_row c_law_row k_law_row
  have b_law_row := F_law_row.binds (ps := ["cell", "most"]) fun _ _ _ _ _ _ us hl => match us, hl with | [_, _], _ => rfl
  have a_law_row := PySem.W.mg_of X G e_law_row
  have F_law_step := fun_mk (st := s_law_step) l_law_step c_law_step k_law_step
  have b_law_step := F_law_step.binds (ps := ["cell"]) fun _ _ _ _ _ _ us hl => match us, hl with | [_], _ => rfl
  have a_law_step := PySem.W.mg_of X G e_law_step
  have F_law_flags := fun_mk (st := s_law_flags) l_law_flags c_law_flags k_law_flags
  have b_law_flags := F_law_flags.binds (ps := ["e"]) fun _ _ _ _ _ _ us hl => match us, hl with | [_], _ => rfl
  have a_law_flags := PySem.W.mg_of X G e_law_flags
  have F_law_far := fun_mk (st := s_law_far) l_law_far c_law_far k_law_far
  have b_law_far := F_law_far.binds (ps := ["cell", "k"]) fun _ _ _ _ _ _ us hl => match us, hl with | [_, _], _ => rfl
  have a_law_far := PySem.W.mg_of X G e_law_far
  have F_law_by_turns := fun_mk (st := s_law_by_turns) l_law_by_turns c_law_by_turns k_law_by_turns
  have b_law_by_turns := F_law_by_turns.binds (ps := ["cell", "k", "row", "step"]) fun _ _ _ _ _ _ us hl => match us, hl with | [_, _, _, _], _ => rfl
  have a_law_by_turns := PySem.W.mg_of X G e_law_by_turns
  have F_law_refused := fun_mk (st := s_law_refused) l_law_refused c_law_refused k_law_refused
  have b_law_refused := F_law_refused.binds (ps := ["door", "row", "step", "places"]) fun _ _ _ _ _ _ us hl => match us, hl with | [_, _, _, _], _ => rfl
  have a_law_refused := PySem.W.mg_of X G e_law_refused
  have F_law := fun_mk (st := s_law) l_law c_law k_law
  have b_law := F_law.binds (ps := ["script"]) fun _ _ _ _ _ _ us hl => match us, hl with | [_], _ => rfl
  have a_law := PySem.W.mg_of X G e_law
  have T_OTHER_KIND : KTab w K y_OTHER_KIND tab_OTHER_KIND := ⟨n_OTHER_KIND, by decide, es_OTHER_KIND, ep_OTHER_KIND, l_OTHER_KIND, v_OTHER_KIND, h_OTHER_KIND⟩
  have a_OTHER_KIND := PySem.W.mg_of X G e_OTHER_KIND
  have z_ValueError := PySem.W.mg_none_of X G y_ValueError
  have z_abs := PySem.W.mg_none_of X G y_abs
  have z_enumerate := PySem.W.mg_none_of X G y_enumerate
  have z_isinstance := PySem.W.mg_none_of X G y_isinstance
  have z_len := PySem.W.mg_none_of X G y_len
  have z_list := PySem.W.mg_none_of X G y_list
  have z_max := PySem.W.mg_none_of X G y_max
  have z_min := PySem.W.mg_none_of X G y_min
  have z_range := PySem.W.mg_none_of X G y_range
  have z_reversed := PySem.W.mg_none_of X G y_reversed
  have z_zip := PySem.W.mg_none_of X G y_zip
  have a_NoForm := PySem.W.mg_of X G e_NoForm
  have a_NoNumber := PySem.W.mg_of X G e_NoNumber
  have a_NoPlace := PySem.W.mg_of X G e_NoPlace
  have a_NoStep := PySem.W.mg_of X G e_NoStep
  have a_NoText := PySem.W.mg_of X G e_NoText
  have a_NoWeights := PySem.W.mg_of X G e_NoWeights
  have a_NoneYet := PySem.W.mg_of X G e_NoneYet
  have a_WaveError := PySem.W.mg_of X G e_WaveError
  have xc_NoStep : XC K "NoStep" y_NoStep := ⟨e_NoStep, n_NoStep⟩
  have hcl_WaveError : ∀ c ∈ (["NoStep"] : List Str), ∀ C, XC K c C → PySem.W.exmOne K (.ref C) (.ref y_WaveError) = some true := by
    intro c hc C h
    simp only [List.mem_cons, List.not_mem_nil, or_false] at hc
    rcases hc with rfl
    · rw [h.eq e_NoStep]; exact m_NoStep_WaveError
  have hi_NoForm : ∀ c k, ([("NoStep", false)] : List (Str × Bool)).lookup c = some k → ∀ C, XC K c C → XCls K C ∧ PySem.W.kitOne K (.ref C) (.ref y_NoForm) = some k := lookup_all (P := fun c k => ∀ C, XC K c C → XCls K C ∧ PySem.W.kitOne K (.ref C) (.ref y_NoForm) = some k) (by
    intro p hp
    simp only [List.mem_cons, List.not_mem_nil, or_false] at hp
    rcases hp with rfl
    · intro C h; rw [h.eq e_NoStep]; exact ⟨xcls_of w_NoStep, i_NoStep_NoForm⟩
    )
  have hi_NoNumber : ∀ c k, ([("NoStep", false)] : List (Str × Bool)).lookup c = some k → ∀ C, XC K c C → XCls K C ∧ PySem.W.kitOne K (.ref C) (.ref y_NoNumber) = some k := lookup_all (P := fun c k => ∀ C, XC K c C → XCls K C ∧ PySem.W.kitOne K (.ref C) (.ref y_NoNumber) = some k) (by
    intro p hp
    simp only [List.mem_cons, List.not_mem_nil, or_false] at hp
    rcases hp with rfl
    · intro C h; rw [h.eq e_NoStep]; exact ⟨xcls_of w_NoStep, i_NoStep_NoNumber⟩
    )
  have hi_NoPlace : ∀ c k, ([("NoStep", false)] : List (Str × Bool)).lookup c = some k → ∀ C, XC K c C → XCls K C ∧ PySem.W.kitOne K (.ref C) (.ref y_NoPlace) = some k := lookup_all (P := fun c k => ∀ C, XC K c C → XCls K C ∧ PySem.W.kitOne K (.ref C) (.ref y_NoPlace) = some k) (by
    intro p hp
    simp only [List.mem_cons, List.not_mem_nil, or_false] at hp
    rcases hp with rfl
    · intro C h; rw [h.eq e_NoStep]; exact ⟨xcls_of w_NoStep, i_NoStep_NoPlace⟩
    )
  have hi_NoStep : ∀ c k, ([("NoStep", true)] : List (Str × Bool)).lookup c = some k → ∀ C, XC K c C → XCls K C ∧ PySem.W.kitOne K (.ref C) (.ref y_NoStep) = some k := lookup_all (P := fun c k => ∀ C, XC K c C → XCls K C ∧ PySem.W.kitOne K (.ref C) (.ref y_NoStep) = some k) (by
    intro p hp
    simp only [List.mem_cons, List.not_mem_nil, or_false] at hp
    rcases hp with rfl
    · intro C h; rw [h.eq e_NoStep]; exact ⟨xcls_of w_NoStep, i_NoStep_NoStep⟩
    )
  have hi_NoText : ∀ c k, ([("NoStep", false)] : List (Str × Bool)).lookup c = some k → ∀ C, XC K c C → XCls K C ∧ PySem.W.kitOne K (.ref C) (.ref y_NoText) = some k := lookup_all (P := fun c k => ∀ C, XC K c C → XCls K C ∧ PySem.W.kitOne K (.ref C) (.ref y_NoText) = some k) (by
    intro p hp
    simp only [List.mem_cons, List.not_mem_nil, or_false] at hp
    rcases hp with rfl
    · intro C h; rw [h.eq e_NoStep]; exact ⟨xcls_of w_NoStep, i_NoStep_NoText⟩
    )
  have hi_NoWeights : ∀ c k, ([("NoStep", false)] : List (Str × Bool)).lookup c = some k → ∀ C, XC K c C → XCls K C ∧ PySem.W.kitOne K (.ref C) (.ref y_NoWeights) = some k := lookup_all (P := fun c k => ∀ C, XC K c C → XCls K C ∧ PySem.W.kitOne K (.ref C) (.ref y_NoWeights) = some k) (by
    intro p hp
    simp only [List.mem_cons, List.not_mem_nil, or_false] at hp
    rcases hp with rfl
    · intro C h; rw [h.eq e_NoStep]; exact ⟨xcls_of w_NoStep, i_NoStep_NoWeights⟩
    )
  have hi_NoneYet : ∀ c k, ([("NoStep", false)] : List (Str × Bool)).lookup c = some k → ∀ C, XC K c C → XCls K C ∧ PySem.W.kitOne K (.ref C) (.ref y_NoneYet) = some k := lookup_all (P := fun c k => ∀ C, XC K c C → XCls K C ∧ PySem.W.kitOne K (.ref C) (.ref y_NoneYet) = some k) (by
    intro p hp
    simp only [List.mem_cons, List.not_mem_nil, or_false] at hp
    rcases hp with rfl
    · intro C h; rw [h.eq e_NoStep]; exact ⟨xcls_of w_NoStep, i_NoStep_NoneYet⟩
    )
  have hb_ValueError : ∀ c k, ([("NoStep", true)] : List (Str × Bool)).lookup c = some k → ∀ C, XC K c C → XCls K C ∧ PySem.W.kitOne K (.ref C) (.type "ValueError") = some k := lookup_all (P := fun c k => ∀ C, XC K c C → XCls K C ∧ PySem.W.kitOne K (.ref C) (.type "ValueError") = some k) (by
    intro p hp
    simp only [List.mem_cons, List.not_mem_nil, or_false] at hp
    rcases hp with rfl
    · intro C h; rw [h.eq e_NoStep]; exact ⟨xcls_of w_NoStep, j_NoStep_ValueError⟩
    )
  refine ⟨PySem.W.fnOf "law" "law" (defArgs s_law) (defBody s_law) (defScope s_law) .none kV_law dc_law pm_law o2_law cd_law ct_law, fun s v => .of_eq rfl, fun base _ _ => ?_⟩
  have G_refuse_step := ok_refuse_step (P := l.prog) (w := w) (mg := mg) (base := base) F_refuse_step   a_NoStep xc_NoStep q_NoStep   
  have GX_refuse_step := okx_refuse_step (P := l.prog) (w := w) (mg := mg) (base := base) F_refuse_step   a_NoStep xc_NoStep q_NoStep   
  have G_are_places := ok_are_places (P := l.prog) (w := w) (mg := mg) (base := base) F_are_places      z_len
  have G_turns_of := ok_turns_of (P := l.prog) (w := w) (mg := mg) (base := base) F_turns_of      z_max z_min z_zip
  have G_go_by_turns := ok_go_by_turns (P := l.prog) (w := w) (mg := mg) (base := base) F_go_by_turns G_turns_of b_turns_of k_turns_of a_turns_of     z_abs z_len z_max z_zip
  have G_are_wavy := ok_are_wavy (P := l.prog) (w := w) (mg := mg) (base := base) F_are_wavy G_are_places b_are_places k_are_places a_are_places G_go_by_turns b_go_by_turns k_go_by_turns a_go_by_turns G_refuse_step b_refuse_step k_refuse_step a_refuse_step GX_refuse_step    
  have GX_are_wavy := okx_are_wavy (P := l.prog) (w := w) (mg := mg) (base := base) F_are_wavy G_are_places b_are_places k_are_places a_are_places G_go_by_turns b_go_by_turns k_go_by_turns a_go_by_turns G_refuse_step b_refuse_step k_refuse_step a_refuse_step GX_refuse_step    
  have G_tails := ok_tails (P := l.prog) (w := w) (mg := mg) (base := base) F_tails      z_len z_range z_reversed
  have G_longer_first := ok_longer_first (P := l.prog) (w := w) (mg := mg) (base := base) F_longer_first      z_len
  have G_longest := ok_longest (P := l.prog) (w := w) (mg := mg) (base := base) F_longest G_longer_first b_longer_first k_longer_first a_longer_first G_refuse_step b_refuse_step k_refuse_step a_refuse_step G_tails b_tails k_tails a_tails GX_refuse_step    z_min
  have GX_longest := okx_longest (P := l.prog) (w := w) (mg := mg) (base := base) F_longest G_longer_first b_longer_first k_longer_first a_longer_first G_refuse_step b_refuse_step k_refuse_step a_refuse_step G_tails b_tails k_tails a_tails GX_refuse_step    z_min
  have G_how_long := ok_how_long (P := l.prog) (w := w) (mg := mg) (base := base) F_how_long G_longest b_longest k_longest a_longest GX_longest    z_len
  have GX_how_long := okx_how_long (P := l.prog) (w := w) (mg := mg) (base := base) F_how_long G_longest b_longest k_longest a_longest GX_longest    z_len
  have G_first_break := ok_first_break (P := l.prog) (w := w) (mg := mg) (base := base) F_first_break      z_len z_range
  have G_are_cuts := ok_are_cuts (P := l.prog) (w := w) (mg := mg) (base := base) F_are_cuts G_are_places b_are_places k_are_places a_are_places     
  have G_pieces_show := ok_pieces_show (P := l.prog) (w := w) (mg := mg) (base := base) F_pieces_show G_are_cuts b_are_cuts k_are_cuts a_are_cuts G_first_break b_first_break k_first_break a_first_break G_refuse_step b_refuse_step k_refuse_step a_refuse_step GX_refuse_step  T_OTHER_KIND a_OTHER_KIND  z_len z_min z_zip
  have GX_pieces_show := okx_pieces_show (P := l.prog) (w := w) (mg := mg) (base := base) F_pieces_show G_are_cuts b_are_cuts k_are_cuts a_are_cuts G_first_break b_first_break k_first_break a_first_break G_refuse_step b_refuse_step k_refuse_step a_refuse_step GX_refuse_step  T_OTHER_KIND a_OTHER_KIND  z_len z_min z_zip
  have G_pieces_of := ok_pieces_of (P := l.prog) (w := w) (mg := mg) (base := base) F_pieces_of G_first_break b_first_break k_first_break a_first_break G_refuse_step b_refuse_step k_refuse_step a_refuse_step GX_refuse_step  T_OTHER_KIND a_OTHER_KIND  z_len z_min
  have GX_pieces_of := okx_pieces_of (P := l.prog) (w := w) (mg := mg) (base := base) F_pieces_of G_first_break b_first_break k_first_break a_first_break G_refuse_step b_refuse_step k_refuse_step a_refuse_step GX_refuse_step  T_OTHER_KIND a_OTHER_KIND  z_len z_min
  have G_law_stir := ok_law_stir (P := l.prog) (w := w) (mg := mg) (base := base) F_law_stir      
  have G_law_cells := ok_law_cells (P := l.prog) (w := w) (mg := mg) (base := base) F_law_cells      z_len z_max z_min
  have G_law_row := ok_law_row (P := l.prog) (w := w) (mg := mg) (base := base) F_law_row G_law_stir b_law_stir k_law_stir a_law_stir     z_min z_range
  have G_law_step := ok_law_step (P := l.prog) (w := w) (mg := mg) (base := base) F_law_step G_law_stir b_law_stir k_law_stir a_law_stir     
  have G_law_flags := ok_law_flags (P := l.prog) (w := w) (mg := mg) (base := base) F_law_flags   a_NoForm a_NoNumber a_NoPlace a_NoStep a_NoText a_NoWeights a_NoneYet hi_NoForm hi_NoNumber hi_NoPlace hi_NoStep hi_NoText hi_NoWeights hi_NoneYet hb_ValueError   z_ValueError z_isinstance
  have G_law_far := ok_law_far (P := l.prog) (w := w) (mg := mg) (base := base) F_law_far G_law_stir b_law_stir k_law_stir a_law_stir     
  have G_law_by_turns := ok_law_by_turns (P := l.prog) (w := w) (mg := mg) (base := base) F_law_by_turns G_law_stir b_law_stir k_law_stir a_law_stir     z_abs z_enumerate
  have G_law_refused := ok_law_refused (P := l.prog) (w := w) (mg := mg) (base := base) F_law_refused G_law_flags b_law_flags k_law_flags a_law_flags G_are_wavy b_are_wavy k_are_wavy a_are_wavy G_how_long b_how_long k_how_long a_how_long G_longest b_longest k_longest a_longest G_pieces_of b_pieces_of k_pieces_of a_pieces_of G_pieces_show b_pieces_show k_pieces_show a_pieces_show GX_are_wavy GX_how_long GX_longest GX_pieces_of GX_pieces_show a_WaveError hcl_WaveError   z_list
  have G_law := ok_law (P := l.prog) (w := w) (mg := mg) (base := base) F_law G_law_by_turns b_law_by_turns k_law_by_turns a_law_by_turns G_law_cells b_law_cells k_law_cells a_law_cells G_law_far b_law_far k_law_far a_law_far G_law_refused b_law_refused k_law_refused a_law_refused G_law_row b_law_row k_law_row a_law_row G_law_step b_law_step k_law_step a_law_step     z_len z_range
  exact G_law
theorem walk {l : PySem.W.OpenLaw} {q : Program} {loose : List Str} {XP : (Str → Option Value) → Heap → Prop} {YP : World → Heap → Prop} {d : DefRec} {K : Params → PySem.W.Frag} (hn : l.most = some 63) (hdf : d.params.defaults = [])
    (law : ∀ ns : List Int, ns.length ≤ 63 → m_law [.lst (ns.map .int)] = some (.sh (.bl true)))
    (hY : ∀ (w : World) (h : Heap), YP w h → (K w.params).In h)
    (F : ∀ (w : World) (mg : Str → Option Value) (fa : Addr) (h : Heap), (K w.params).In h → h.Ns mainGlobals mg → mg d.name = some (.ref fa) →
      ∃ fd : FuncData, (∀ (s : Shared) (u : Value), BindsTo s fd ⟨[u], []⟩ [("script", u)]) ∧ ∀ base : Heap, (K w.params).In base → base.Ns mainGlobals mg → FnOk l.prog w (K w.params) mg base CX0 6 fa fd ["script"] (spR (K w.params) 1 m_law)) :
    PySem.W.WalkO q loose XP YP l.row.toRowW d [] (fun f vs => PySem.call f vs) :=
  L2.walk_of (n := 63) (k := 6) (x := "script") (CX := fun _ => CX0) (sp := fun w => spR (K w.params) 1 m_law) hn (by decide) hdf ⟨rfl, by decide, by decide⟩ hY F (fun w H a ns hl _ hS => sp_law law H a ns hl hS _) fun _ _ _ _ _ z => z
end Lw

open PySem PySem.W PyProof.Rows
set_option maxRecDepth 100000 in
set_option maxHeartbeats 0 in
theorem PySem.Challenge.cw_wavyrow_k03_no_steps_holds : PySem.Challenge.rw_wavyrow_k03_no_steps.Holds := by
  w_on; o_law; k_head; (case hw => w_witness2)
  k_fill
  refine Lw.walk (l := PySem.Challenge.rw_wavyrow_k03_no_steps) rfl rfl Lw.law_true (fun w h Y => PySem.W.kIn_of Y) ?F
  case F =>
    intro w mg fa h KX G hmg
    refine' Lw.all_mk KX G hmg ?e_refuse_step ?l_refuse_step ?c_refuse_step ?k_refuse_step ?e_are_places ?l_are_places ?c_are_places ?k_are_places ?e_turns_of ?l_turns_of ?c_turns_of ?k_turns_of ?e_go_by_turns ?l_go_by_turns ?c_go_by_turns ?k_go_by_turns ?e_are_wavy ?l_are_wavy ?c_are_wavy ?k_are_wavy ?e_tails ?l_tails ?c_tails ?k_tails ?e_longer_first ?l_longer_first ?c_longer_first ?k_longer_first ?e_longest ?l_longest ?c_longest ?k_longest ?e_how_long ?l_how_long ?c_how_long ?k_how_long ?e_first_break ?l_first_break ?c_first_break ?k_first_break ?e_are_cuts ?l_are_cuts ?c_are_cuts ?k_are_cuts ?e_pieces_show ?l_pieces_show ?c_pieces_show ?k_pieces_show ?e_pieces_of ?l_pieces_of ?c_pieces_of ?k_pieces_of ?e_law_stir ?l_law_stir ?c_law_stir ?k_law_stir ?e_law_cells ?l_law_cells ?c_law_cells ?k_law_cells ?e_law_row ?l_law_row ?c_law_row ?k_law_row ?e_law_step ?l_law_step ?c_law_step ?k_law_step ?e_law_flags ?l_law_flags ?c_law_flags ?k_law_flags ?e_law_far ?l_law_far ?c_law_far ?k_law_far ?e_law_by_turns ?l_law_by_turns ?c_law_by_turns ?k_law_by_turns ?e_law_refused ?l_law_refused ?c_law_refused ?k_law_refused ?e_law ?l_law ?c_law ?k_law ?e_OTHER_KIND ?l_OTHER_KIND ?n_OTHER_KIND ?v_OTHER_KIND ?h_OTHER_KIND  ?e_NoForm ?e_NoNumber ?e_NoPlace ?e_NoStep ?e_NoText ?e_NoWeights ?e_NoneYet ?e_WaveError ?n_NoStep ?q_NoStep ?w_NoStep ?m_NoStep_WaveError ?i_NoStep_NoForm ?i_NoStep_NoNumber ?i_NoStep_NoPlace ?i_NoStep_NoStep ?i_NoStep_NoText ?i_NoStep_NoWeights ?i_NoStep_NoneYet ?j_NoStep_ValueError ?y_ValueError ?y_abs ?y_enumerate ?y_isinstance ?y_len ?y_list ?y_max ?y_min ?y_range ?y_reversed ?y_zip
    (case e_refuse_step => k_is); (case l_refuse_step => k_is); (case c_refuse_step => k_is); (case k_refuse_step => k_is)
    (case e_are_places => k_is); (case l_are_places => k_is); (case c_are_places => k_is); (case k_are_places => k_is)
    (case e_turns_of => k_is); (case l_turns_of => k_is); (case c_turns_of => k_is); (case k_turns_of => k_is)
    (case e_go_by_turns => k_is); (case l_go_by_turns => k_is); (case c_go_by_turns => k_is); (case k_go_by_turns => k_is)
    (case e_are_wavy => k_is); (case l_are_wavy => k_is); (case c_are_wavy => k_is); (case k_are_wavy => k_is)
    (case e_tails => k_is); (case l_tails => k_is); (case c_tails => k_is); (case k_tails => k_is)
    (case e_longer_first => k_is); (case l_longer_first => k_is); (case c_longer_first => k_is); (case k_longer_first => k_is)
    (case e_longest => k_is); (case l_longest => k_is); (case c_longest => k_is); (case k_longest => k_is)
    (case e_how_long => k_is); (case l_how_long => k_is); (case c_how_long => k_is); (case k_how_long => k_is)
    (case e_first_break => k_is); (case l_first_break => k_is); (case c_first_break => k_is); (case k_first_break => k_is)
    (case e_are_cuts => k_is); (case l_are_cuts => k_is); (case c_are_cuts => k_is); (case k_are_cuts => k_is)
    (case e_pieces_show => k_is); (case l_pieces_show => k_is); (case c_pieces_show => k_is); (case k_pieces_show => k_is)
    (case e_pieces_of => k_is); (case l_pieces_of => k_is); (case c_pieces_of => k_is); (case k_pieces_of => k_is)
    (case e_law_stir => k_is); (case l_law_stir => k_is); (case c_law_stir => k_is); (case k_law_stir => k_is)
    (case e_law_cells => k_is); (case l_law_cells => k_is); (case c_law_cells => k_is); (case k_law_cells => k_is)
    (case e_law_row => k_is); (case l_law_row => k_is); (case c_law_row => k_is); (case k_law_row => k_is)
    (case e_law_step => k_is); (case l_law_step => k_is); (case c_law_step => k_is); (case k_law_step => k_is)
    (case e_law_flags => k_is); (case l_law_flags => k_is); (case c_law_flags => k_is); (case k_law_flags => k_is)
    (case e_law_far => k_is); (case l_law_far => k_is); (case c_law_far => k_is); (case k_law_far => k_is)
    (case e_law_by_turns => k_is); (case l_law_by_turns => k_is); (case c_law_by_turns => k_is); (case k_law_by_turns => k_is)
    (case e_law_refused => k_is); (case l_law_refused => k_is); (case c_law_refused => k_is); (case k_law_refused => k_is)
    (case e_law => k_is); (case l_law => k_is); (case c_law => k_is); (case k_law => k_is)
    (case e_OTHER_KIND => k_is); (case l_OTHER_KIND => k_is); (case n_OTHER_KIND => first | rfl | decide | k_is)
    (case v_OTHER_KIND => exact ⟨⟨_, rfl⟩, ⟨_, rfl⟩, ⟨_, rfl⟩, ⟨_, rfl⟩, True.intro⟩)
    (case h_OTHER_KIND => intro e he k t hk; simp only [List.mem_cons, List.not_mem_nil, or_false] at he; rcases he with rfl | rfl <;> cases hk <;> rfl)
    (case e_NoForm => first | k_is | rfl | k_exc | (unfold L2.bmV; k_exc))
    (case e_NoNumber => first | k_is | rfl | k_exc | (unfold L2.bmV; k_exc))
    (case e_NoPlace => first | k_is | rfl | k_exc | (unfold L2.bmV; k_exc))
    (case e_NoStep => first | k_is | rfl | k_exc | (unfold L2.bmV; k_exc))
    (case e_NoText => first | k_is | rfl | k_exc | (unfold L2.bmV; k_exc))
    (case e_NoWeights => first | k_is | rfl | k_exc | (unfold L2.bmV; k_exc))
    (case e_NoneYet => first | k_is | rfl | k_exc | (unfold L2.bmV; k_exc))
    (case e_WaveError => first | k_is | rfl | k_exc | (unfold L2.bmV; k_exc))
    (case n_NoStep => first | k_is | rfl | k_exc | (unfold L2.bmV; k_exc))
    (case q_NoStep => first | k_is | rfl | k_exc | (unfold L2.bmV; k_exc))
    (case w_NoStep => first | k_is | rfl | k_exc | (unfold L2.bmV; k_exc))
    (case m_NoStep_WaveError => first | k_is | rfl | k_exc | (unfold L2.bmV; k_exc))
    (case i_NoStep_NoForm => first | k_is | rfl | k_exc | (unfold L2.bmV; k_exc))
    (case i_NoStep_NoNumber => first | k_is | rfl | k_exc | (unfold L2.bmV; k_exc))
    (case i_NoStep_NoPlace => first | k_is | rfl | k_exc | (unfold L2.bmV; k_exc))
    (case i_NoStep_NoStep => first | k_is | rfl | k_exc | (unfold L2.bmV; k_exc))
    (case i_NoStep_NoText => first | k_is | rfl | k_exc | (unfold L2.bmV; k_exc))
    (case i_NoStep_NoWeights => first | k_is | rfl | k_exc | (unfold L2.bmV; k_exc))
    (case i_NoStep_NoneYet => first | k_is | rfl | k_exc | (unfold L2.bmV; k_exc))
    (case j_NoStep_ValueError => first | k_is | rfl | k_exc | (unfold L2.bmV; k_exc))
    (case y_ValueError => k_is)
    (case y_abs => k_is)
    (case y_enumerate => k_is)
    (case y_isinstance => k_is)
    (case y_len => k_is)
    (case y_list => k_is)
    (case y_max => k_is)
    (case y_min => k_is)
    (case y_range => k_is)
    (case y_reversed => k_is)
    (case y_zip => k_is)
