import PyProof.Rows.All
import Wide.All
import OpenK.AllK
import Wide.FinOn
import Lean
import PyProof.EqAt
import PyProof.EqKinds
import PyProof.TupleCall
import PyProof.NeKinds
import KE.IntBitsLaws
import PyProof.FitsBits
import PySem.Challenge.RW_wavyrow_k27_kept_by_turns
set_option Elab.async false
set_option linter.all false
set_option maxRecDepth 100000
set_option compiler.extract_closed false
@[elab_as_elim] theorem rwA{α:Sort _}{p:α→Prop}{a b:α}(h:a=b)(m:p b):p a:=h▸m
@[elab_as_elim] theorem rwB{α:Sort _}{p:α→Prop}{a b:α}(h:b=a)(m:p b):p a:=h▸m
theorem rwC{G:Prop}{α:Type _}{x:α}(e:none=some x):G:=nomatch e
theorem rwD{G:Prop}{α:Type _}{x:α}(e:some x=none):G:=nomatch e
theorem rwE{α:Type _}{x y:α}(e:some x=some y):y=x:=(Option.some.inj e).symm
theorem rwG{G:Prop}(h:∀P:Prop,(G→P)→P):G:=h G id
def rwI{α}:Lean.MacroM α:=Lean.Macro.throwUnsupported
def rwF(s:Lean.Syntax):Lean.MacroM Lean.Syntax:=s.rewriteBottomUpM λs=>do
 if s.isOfKind `Lean.Parser.Term.anonymousCtor then let a:Array (Lean.TSyntax `rcasesPat):=s[1].getSepArgs.map (⟨·⟩);`(rcasesPat|⟨$[$a:rcasesPat],*⟩)
 else if s.isIdent then let i:Lean.Ident:=⟨s⟩;`(rcasesPat|$i:ident) else if s.isOfKind `Lean.Parser.Term.hole then `(rcasesPat|_) else pure s
def rwH(s:Lean.Syntax):Bool:=((s.reprint.getD "").splitOn ",").length<6
local macro_rules
|`(tactic|show $t:term)=>if t.raw.isOfKind `Lean.Parser.Term.anonymousCtor then `(tactic|refine $t) else `(tactic|first|refine $t|refine(?_:$t))
|`(tactic|let $p:term:=$e)=>do let q:Lean.TSyntax `rcasesPat:=⟨<-rwF p⟩;let r<-`(tactic|rcases $e:term with $q:rcasesPat);if rwH p then pure r else `(tactic|(refine rwG λP k=>?_;$r:tactic;refine k ?_;clear k P))
|`(tactic|rintro $p*)=>do
 let some l:=p.back?|rwI
 if rwH l then rwI
 let `(rintroPat|$q:rcasesPat):=l|rwI
 let c<-`(tactic|(intro x;refine rwG λP k=>?_;rcases x with $q:rcasesPat<;>(refine k ?_;clear k P)))
 if p.size<2 then pure c else let p:=p.pop;`(tactic|(rintro $p*;$c:tactic))
|`(tactic|ext $e:rintroPat)=>do let e:Lean.Ident:=⟨e.raw[0][0]⟩;`(tactic|first|with_reducible exact rwC $e|with_reducible exact rwD $e|(with_reducible replace $e:ident:=rwE $e;subst $e:ident)|((fail_if_success(injection $e:ident with e f g;have:=g));first|(injection $e:ident with e f;subst e;subst f)|((fail_if_success(injection $e:ident with e f;have:=f));injection $e:ident with e;subst e))|cases $e:ident)
|`(tactic|rcases $q:ident:$t,$e:ident with $o:ident)=>`(tactic|(cases $q:ident:$t:term;(rw[$q:ident]at $e:ident;ext $e:ident);rename_i $o:ident;rw[$q:ident]at $e:ident))
|`(tactic|rw[$r,*])=>do
 let mut t:Array (Lean.TSyntax `tactic):=#[]
 for r in r.getElems do
  if (r.raw.find? λs=>s.isOfKind `Lean.Parser.Term.byTactic||s.isOfKind `Lean.Parser.Term.syntheticHole).isSome then rwI
  let f (c e:Lean.Term):=`(tactic|((fail_if_success(fail_if_success rewrite[$r:rwRule]));with_reducible_and_instances first|refine $c $e ?_|refine $c ($e _) ?_|refine $c ($e _ _) ?_|refine $c ($e _ _ _) ?_))
  let u<-match r with
   |`(Lean.Parser.Tactic.rwRule|← $e:term)=>do f (<-`(rwB)) e
   |`(Lean.Parser.Tactic.rwRule|$e:term)=>do f (<-`(rwA)) e
   |_=>rwI
  t:=t.push (<-`(tactic|first|$u:tactic|rewrite[$r:rwRule]))
 `(tactic|($[$t:tactic]*;try with_reducible rfl))
namespace L2
open List
open PySem PySem.Spec PyProof.Rows
section
noncomputable abbrev Key:=Sum Int Str
noncomputable def xf6:Key->Value->Bool
 | .inl k,v=>Value.isInt k v
 | .inr x,v=>Value.isStrOf x v
noncomputable def keyH (w:World):Key->Int
 | .inl k=>hashInt k
 | .inr x=>hashStr w x
theorem k0:∀{k:Key}{v:Value},xf6 k v=true->(∃ i t,k=Sum.inl i/\v=Value.int i t)\/(∃ x t,k=Sum.inr x/\v=Value.str x t)
 | .inl i,v,h=>by
  let⟨t,e⟩:=Value.isInt_shape (k:=i) (v:=v) h
  show .inl ⟨i,t,rfl,e⟩
 | .inr x,v,h=>by
  let⟨t,e⟩:=Value.isStrOf_shape (x:=x) (v:=v) h
  show .inr ⟨x,t,rfl,e⟩
theorem xf4 (a b:Int):decide ((Sum.inl a:Key)=Sum.inl b)=(a==b):=by
 by_cases e:a=b
 .subst e;simp
 .have h:¬ (Sum.inl a:Key)=Sum.inl b:=fun q=>e (Sum.inl.inj q)
  rw[decide_eq_false h]
  show(beq_eq_false_iff_ne.mpr e).symm
theorem xf1 (a b:Str):decide ((Sum.inr a:Key)=Sum.inr b)=decide (a=b):=by
 by_cases e:a=b
 .subst e;simp
 .have h:¬ (Sum.inr a:Key)=Sum.inr b:=fun q=>e (Sum.inr.inj q)
  rw[decide_eq_false h,decide_eq_false e]
theorem xf3 (a:Int)(b:Str):decide ((Sum.inl a:Key)=Sum.inr b)=false:=decide_eq_false (fun q=>nomatch q)
theorem xf2 (a:Str)(b:Int):decide ((Sum.inr a:Key)=Sum.inl b)=false:=decide_eq_false (fun q=>nomatch q)
noncomputable def zi7 (prog:Program)(w:World):PySem.KeyKind prog w Key where
 is:=xf6
 hash:=keyH w
 inj:=fun v a b ha hb=>by
  rcases k0 ha with⟨i,t,rfl,rfl⟩|⟨x,t,rfl,rfl⟩
  .rcases k0 hb with⟨j,u,rfl,e⟩|⟨y,u,rfl,e⟩
   .injection e with e1 _;rw[e1]
   .exact nomatch e
  .rcases k0 hb with⟨j,u,rfl,e⟩|⟨y,u,rfl,e⟩
   .exact nomatch e
   .injection e with e1 _;rw[e1]
 byValue:=fun k v h=>by
  rcases k0 h with⟨i,t,rfl,rfl⟩|⟨x,t,rfl,rfl⟩ <;> rfl
 pyHash:=fun hv h=>by
  rcases k0 hv with⟨i,t,rfl,rfl⟩|⟨x,t,rfl,rfl⟩
  .exact wpAny_pyHash_int h
  .exact wpAny_pyHash_str h
 eqBool:=fun hu hv h=>by
  rcases k0 hu with⟨i,t,rfl,rfl⟩|⟨x,t,rfl,rfl⟩
  .rcases k0 hv with⟨j,u,rfl,rfl⟩|⟨y,u,rfl,rfl⟩
   .rw[xf4]at h;exact wpAny_eqBool_int h
   .rw[xf3]at h;exact SeqAt.EqAt.int_str i t y u _ _ _ _ h
  .rcases k0 hv with⟨j,u,rfl,rfl⟩|⟨y,u,rfl,rfl⟩
   .rw[xf2]at h;exact SeqAt.EqAt.str_int x t j u _ _ _ _ h
   .rw[xf1]at h;exact wpAny_eqBool_str h
 «strs»:=fun k x t v h=>by
  rcases k0 h with⟨i,u,rfl,e⟩|⟨y,u,rfl,e⟩
  .exact nomatch e
  .injection e with e1 _
   subst e1
   cases v <;> rfl
end
section
inductive V where
 |non|bl (b:Bool)|int (i:Int)|str (x:Str)|byt (b:Array UInt8)|flt (b:UInt64)|ref (a:Addr)|ty (n:String)
 deriving DecidableEq
noncomputable def RelV:V->Value->Prop
 | .non,u=>u=Value.none
 | .bl b,u=>u=Value.bool b
 | .int i,u=>∃ t,u=Value.int i t
 | .str x,u=>∃ t,u=Value.str x t
 | .byt b,u=>∃ t,u=Value.bytes b t
 | .flt b,u=>∃ t,u=Value.float b t
 | .ref a,u=>u=Value.ref a
 | .ty n,u=>u=Value.type n
noncomputable abbrev Vals:List V->List Value->Prop:=Paired RelV
theorem Vals.length {xs:List V}{us:List Value}(r:Vals xs us):xs.length=us.length:=Paired.length r
theorem Vals.get:∀{xs:List V}{us:List Value}{i:Nat}{x:V},Vals xs us->xs[i]? =some x->∃ u,us[i]? =some u/\RelV x u
 |_,_,_,_,.nil,e=>by simp at e
 |_,_,0,_,.cons r _,e=>by simp at e;subst e;show⟨_,rfl,r⟩
 |_,_,i+1,x,.cons _ t,e=>by
  let⟨u,h1,h2⟩:=Vals.get (i:=i) (x:=x) t (by simpa using e)
  show⟨u,by simpa using h1,h2⟩
theorem Vals.set {x:V}{u:Value}(r:RelV x u):∀{xs:List V}{us:List Value}(i:Nat),Vals xs us->Vals (xs.set i x) (us.set i u)
 |_,_,_,.nil=>.nil
 |_,_,0,.cons _ t=>.cons r t
 |_,_,i+1,.cons q t=>.cons q (Vals.set r i t)
theorem Vals.append:∀{xs ys:List V}{us ws:List Value},Vals xs us->Vals ys ws->Vals (xs++ys) (us++ws)
 |_,_,_,_,.nil,s=>s
 |_,_,_,_,.cons r t,s=>.cons r (Vals.append t s)
theorem Vals.take:∀{xs:List V}{us:List Value}(n:Nat),Vals xs us->Vals (xs.take n) (us.take n)
 |_,_,0,_=>.nil
 |_,_,_+1,.nil=>.nil
 |_,_,n+1,.cons r t=>.cons r (Vals.take n t)
theorem Vals.drop:∀{xs:List V}{us:List Value}(n:Nat),Vals xs us->Vals (xs.drop n) (us.drop n)
 |_,_,0,r=>r
 |_,_,_+1,.nil=>.nil
 |_,_,n+1,.cons _ t=>Vals.drop n t
noncomputable def RelO:Option V->Option Value->Prop
 |some v,some u=>RelV v u
 |none,none=>True
 |_,_=>False
noncomputable def KV {κ:Type}:List (κ×V)->List (κ×Value)->Prop:=Paired fun(p:κ×V)(q:κ×Value)=>p.1=q.1/\RelV p.2 q.2
noncomputable def kV:Key->V
 | .inl i=>.int i
 | .inr x=>.str x
inductive HO where
 |lst (xs:List V)
 |tup (xs:List V)
 |dK (kvs:List (Key×V))|dT (kvs:List (List Key×V))
 |set (S:Int->Bool) (n:Nat)
 |ins (C dx:Addr) (fs:List (Str×V))
 |own (x:Addr)
 |xd (fs:List (Str×V))
 |met (f x:Addr)
 |rng (lo hi:Int)
 |frz (o:Obj) (u:HO)
 |tbl (ps:Array Value)
 |ext (φ:Heap->Prop)
noncomputable abbrev Hp:=Addr->Option HO
noncomputable def upd (H:Hp)(a:Addr)(o:HO):Hp:=fun b=>if b=a then some o else H b
theorem y3 {H:Hp}{a:Addr}{o:HO}:upd H a o a=some o:=by delta upd;rw[if_pos rfl]
theorem y4 {H:Hp}{a b:Addr}{o:HO}(h:b≠a):upd H a o b=H b:=by delta upd;rw[if_neg h]
theorem m6 {H:Hp}{a b:Addr}{o:HO}(h:H a=some o)(h':H b=none):a≠b:=by
 intro e;subst e;rw[h]at h';ext h'
section
variable (P:Program)(w:World)
noncomputable def ObjOk (H:Hp)(h:Heap)(a:Addr):HO->Prop
 | .lst xs=>xs.length<=sizeLine/\∃(its:List Value)(n:Nat),Vals xs its/\h.get? a=some { cls:=.type "list",data:=.seq its.toArray n }
 | .tup xs=>xs.length<=sizeLine/\∃ its:List Value,Vals xs its/\IsTup h a its.toArray
 | .dK kvs=>kvs.length<=sizeLine/\(a==sysModules)=false/\∃ vs,KV kvs vs/\h.DictOf (zi7 P w) a vs
 | .dT kvs=>kvs.length<=sizeLine/\(a==sysModules)=false/\∃ xs:List (List Key×Addr×Value),
   Paired (fun(p:List Key×V)(q:List Key×Addr×Value)=>p.1=q.1/\H q.2.1=some (.tup (p.1.map kV))/\RelV p.2 q.2.2) kvs xs/\
   ∃ o es ep,h.get? a=some o/\o.ExactDict/\o.data= .dict es ep/\es.toList=xs.map (entryOfKey (tupleKind (zi7 P w)))/\(xs.map (·.1)).Nodup
 | .set S n=>h.SetOf (intKind P w) a S n
 | .ins C dx fs=>H dx=some (.own a)/\fs.length<=1000/\dx≠a/\h.get? a=some (W.instObj C dx)/\
   ∃ mA,h.Ns1 dx mA/\(∀ f,RelO (fs.lookup f) (mA f))/\PySem.Within mA (fs.map (·.1))
 | .own _=>∃ o,h.get? a=some o
 | .xd fs=>∃ mA,h.Ns1 a mA/\∀ f,RelO (fs.lookup f) (mA f)
 | .rng lo hi=>∃ t u v,h.get? a=some { cls:=.type "range",data:=.fields #[.int lo t,.int hi u,.int 1 v] }
 | .frz o u=>h.get? a=some o/\ObjOk H h a u
 | .tbl ps=>h.get? a=some { cls:=.none,data:=.fields ps }
 | .met f x=>h.get? a=some (W.methodObj (.ref f) (.ref x))
 | .ext φ=>φ h/\(∃ o,h.get? a=some o)/\∀ h1 h2:Heap,φ h1->(∀ o,h1.get? a=some o->h2.get? a=some o)->φ h2
noncomputable def HOk (H:Hp)(h:Heap):Prop:=∀ a o,H a=some o->ObjOk P w H h a o
end
section
variable {P:Program}{w:World}{H H':Hp}{h h':Heap}{a:Addr}{o:HO}
theorem ObjOk.lt (x:ObjOk P w H h a o):a<h.objs.size:=by
 cases o with
 |lst xs=>let⟨_,_,_,_,e⟩:=x;show Heap.lt_size e
 |tup xs=>let⟨_,_,_,p⟩:=x;show p.lt
 |dK kvs=>let⟨_,_,_,_,o,_,_,e,_⟩:=x;show Heap.lt_size e
 |dT kvs=>let⟨_,_,_,_,o,_,_,e,_⟩:=x;show Heap.lt_size e
 |set S n=>let⟨o,_,_,_,e,_⟩:=x;show Heap.lt_size e
 |ins C dx fs=>let⟨_,_,_,e,_⟩:=x;show Heap.lt_size e
 |own y=>let⟨_,e⟩:=x;show Heap.lt_size e
 |xd fs=>let⟨_,⟨_,_,_,e,_⟩,_⟩:=x;show Heap.lt_size e
 |rng lo hi=>let⟨_,_,_,e⟩:=x;show Heap.lt_size e
 |frz ob u=>let⟨e,_⟩:=x;show Heap.lt_size e
 |tbl ps=>show Heap.lt_size (show h.get? a=some _ from x)
 |met f y=>show Heap.lt_size (show h.get? a=some _ from x)
 |ext φ=>let⟨_,⟨_,e⟩,_⟩:=x;show Heap.lt_size e
theorem Paired.mapP {α β:Type}{F G:α->β->Prop}:∀{j:List α}{i:List β},Paired F j i->(∀ a b,F a b->G a b)->Paired G j i
 |_,_,.nil,_=>.nil
 |_,_,.cons r t,f=>.cons (f _ _ r) (Paired.mapP t f)
theorem ObjOk.stay (x:ObjOk P w H h a o)(k:∀ b u,(b=a\/H b=some (.own a))->h.get? b=some u->h'.get? b=some u)
  (G:∀ b,H b=some (.own a)->H' b=some (.own a)) (j:∀ b xs,H b=some (.tup xs)->H' b=some (.tup xs)):ObjOk P w H' h' a o:=by
 induction o with
 |lst xs=>let⟨z,its,n,r,e⟩:=x;show⟨z,its,n,r,k _ _ (.inl rfl) e⟩
 |tup xs=>let⟨z,its,r,ob,e,c⟩:=x;show⟨z,its,r,ob,k _ _ (.inl rfl) e,c⟩
 |dK kvs=>let⟨z,y,vs,r,ob,es,ep,e,c⟩:=x;show⟨z,y,vs,r,ob,es,ep,k _ _ (.inl rfl) e,c⟩
 |dT kvs=>
  let⟨z,y,xs,r,ob,es,ep,e,c⟩:=x
  show⟨z,y,xs,Paired.mapP r fun p q z=>⟨z.1,j _ _ z.2.1,z.2.2⟩,ob,es,ep,k _ _ (.inl rfl) e,c⟩
 |set S n=>let⟨ob,es,ep,t,e,c⟩:=x;show⟨ob,es,ep,t,k _ _ (.inl rfl) e,c⟩
 |ins C dx fs=>
  let⟨d,z,ne,e,mA,⟨od,es,ep,e2,c⟩,r⟩:=x
  show⟨G _ d,z,ne,k _ _ (.inl rfl) e,mA,⟨od,es,ep,k _ _ (.inr d) e2,c⟩,r⟩
 |own y=>let⟨ob,e⟩:=x;show⟨ob,k _ _ (.inl rfl) e⟩
 |xd fs=>let⟨mA,⟨od,es,ep,e,c⟩,r⟩:=x;show⟨mA,⟨od,es,ep,k _ _ (.inl rfl) e,c⟩,r⟩
 |rng lo hi=>let⟨t,u,v,e⟩:=x;show⟨t,u,v,k _ _ (.inl rfl) e⟩
 |frz ob u i=>let⟨e,q⟩:=x;show⟨k _ _ (.inl rfl) e,i q⟩
 |tbl ps=>
  have e:h.get? a=some { cls:=.none,data:=.fields ps }:=x
  show h'.get? a=some { cls:=.none,data:=.fields ps }
  show k a _ (.inl rfl) e
 |met f y=>
  have e:h.get? a=some (W.methodObj (.ref f) (.ref y)):=x
  show h'.get? a=some (W.methodObj (.ref f) (.ref y))
  show k a _ (.inl rfl) e
 |ext φ=>let⟨p,⟨o,e⟩,st⟩:=x;show⟨st _ _ p fun o q=>k _ _ (.inl rfl) q,⟨o,k _ _ (.inl rfl) e⟩,st⟩
theorem HOk.lt (x:HOk P w H h)(e:H a=some o):a<h.objs.size:=(x a o e).lt
theorem HOk.fresh (x:HOk P w H h)(e:h.objs.size<=a):H a=none:=by
 cases q:H a with
 |none=>rfl
 |some u=>show absurd (Nat.lt_of_lt_of_le (x.lt q) e) (Nat.lt_irrefl _)
theorem HOk.kept (x:HOk P w H h)(k:∀ b u,h.get? b=some u->h'.get? b=some u):HOk P w H h':=fun a o e=>
 (x a o e).stay (fun b u _ q=>k b u q) (fun _ q=>q) fun _ _ q=>q
theorem HOk.laid (x:HOk P w H h)(k:∀ b u,h.get? b=some u->h'.get? b=some u)(hp:h.objs.size<=a)(new:ObjOk P w (upd H a o) h' a o):HOk P w (upd H a o) h':=fun b u e=>by
 have hn:=x.fresh hp
 by_cases i:b=a
 .subst i;rw[y3]at e;ext e;show new
 .rw[y4 i]at e
  show(x b u e).stay (fun c v _ q=>k c v q) (fun c q=>by rw[y4 (m6 q hn)];show q) fun c xs q=>by rw[y4 (m6 q hn)];show q
end
noncomputable def Rd (H:Hp)(a:Addr)(u:HO):Prop:=H a=some u\/∃ o,H a=some (.frz o u)
theorem Rd.ok {P:Program}{w:World}{H:Hp}{h:Heap}{a:Addr}{u:HO}(r:Rd H a u)(x:HOk P w H h):ObjOk P w H h a u:=by
 rcases r with r|⟨o,r⟩
 .exact x a u r
 .let⟨_,q⟩:=x a _ r
  show q
noncomputable def Mut:Option HO->Prop
 |some (.lst _)=>True
 |some (.dK _)=>True
 |some (.dT _)=>True
 |some (.set _ _)=>True
 |some (.ins _ _ _)=>True
 |some (.ext _)=>True
 |_=>False
section
variable {P:Program}{w:World}{H:Hp}{h h':Heap}{x e:Addr}{o':HO}
theorem HOk.write (ok:HOk P w H h)(I:Mut (H x))(Y:e=x\/H e=some (.own x))(k:∀ b u,b≠e->h.get? b=some u->h'.get? b=some u)(U:∃ u,h'.get? e=some u)
  (new:ObjOk P w (upd H x o') h' x o'):HOk P w (upd H x o') h':=fun b u q=>by
 have j:∀ c y,H c=some (.own y)->c≠x:=fun c y r z=>by subst z;rw[r]at I;show I
 have G:∀ c xs,H c=some (.tup xs)->c≠x:=fun c xs r z=>by subst z;rw[r]at I;show I
 by_cases O:b=x
 .subst O;rw[y3]at q;ext q;show new
 .rw[y4 O]at q
  by_cases i:b=e
  .have q':H b=some (.own x):=by
    rcases Y with z|z
    .exact absurd (i.trans z) O
    .rw[i];show z
   rw[q]at q';ext q'
   let⟨v,Z⟩:=U
   show⟨v,by rw[i];show Z⟩
  .refine(ok b u q).stay (fun c v N r=>k c v ?_ r) (fun c r=>by rw[y4 (j c b r)];show r) fun c xs r=>by rw[y4 (G c xs r)];show r
   rcases N with rfl|N
   .exact i
   .rintro rfl
    rcases Y with z|z
    .exact j c b N z
    .rw[N]at z;ext z;show O rfl
end
structure Un (fs ex:List Addr)(H H':Hp)(h h':Heap):Prop where
 keep:∀ b o,h.get? b=some o->H b=none->b∉fs->b∉ex->h'.get? b=some o
 slot:∀ b o,h.get? b=some o->H b=none->b∈fs->b∉ex->∃ sl,h'.get? b=some { o with slots:=sl }
 free:∀ b o,h.get? b=some o->H b=none->b∉ex->H' b=none
 there:∀ b o,h.get? b=some o->b∉ex->∃ o',h'.get? b=some o'
 tups:∀ b xs,H b=some (.tup xs)->H' b=some (.tup xs)
 frzs:∀ b o u,H b=some (.frz o u)->H' b=some (.frz o u)
 tbls:∀ b ps,H b=some (.tbl ps)->∃ more,H' b=some (.tbl (ps++more))
section
variable {fs fs' ex ex':List Addr}{H H1 H2:Hp}{h h1 h2 h':Heap}{a x e:Addr}{o:HO}
theorem Un.any (u:Un fs ex H H1 h h1){b:Addr}{ob:Obj}(q:h.get? b=some ob)(n:H b=none)(i:b∉ex):∃ sl,h1.get? b=some { ob with slots:=sl }:=by
 by_cases j:b∈fs
 .exact u.slot b ob q n j i
 .exact⟨ob.slots,u.keep b ob q n j i⟩
theorem Un.kept (k:∀ b u,h.get? b=some u->h'.get? b=some u):Un fs ex H H h h':=
 ⟨fun b ob q _ _ _=>k b ob q,fun b ob q _ _ _=>⟨ob.slots,k b ob q⟩,fun _ _ _ n _=>n,fun b ob q _=>⟨ob,k b ob q⟩,fun _ _ q=>q,fun _ _ _ q=>q,fun _ ps q=>⟨#[],by rw[q];simp⟩⟩
theorem Un.refl:Un fs ex H H h h:=Un.kept fun _ _ q=>q
theorem Un.laid (k:∀ b u,h.get? b=some u->h'.get? b=some u)(hp:h.objs.size<=a)(hn:H a=none):Un fs ex H (upd H a o) h h' where
 keep:=fun b u q _ _ _=>k b u q
 slot:=fun b u q _ _ _=>⟨u.slots,k b u q⟩
 free:=fun b u q n _=>by rw[y4 (Nat.ne_of_lt (Nat.lt_of_lt_of_le (Heap.lt_size q) hp))];show n
 there:=fun b u q _=>⟨u,k b u q⟩
 tups:=fun b xs q=>by rw[y4 (m6 q hn)];show q
 frzs:=fun b u xs q=>by rw[y4 (m6 q hn)];show q
 tbls:=fun b ps q=>⟨#[],by rw[y4 (m6 q hn),q];simp⟩
theorem Un.write (j:Mut (H x))(O:e=x\/H e=some (.own x))(k:∀ b u,b≠e->h.get? b=some u->h'.get? b=some u)(G:∃ u,h'.get? e=some u):Un fs ex H (upd H x o) h h':=by
 have I:∀ b,H b=none->b≠x:=fun b n z=>by subst z;rw[n]at j;show j
 have N:∀ b,H b=none->b≠e:=fun b n z=>by
  subst z
  rcases O with r|r
  .exact I b n r
  .rw[n]at r;ext r
 have hm:∀ b u,H b=some u->¬ Mut (some u)->b≠x:=fun b u q nm z=>by subst z;rw[q]at j;show nm j
 show⟨fun b u q n _ _=>k b u (N b n) q,fun b u q n _ _=>⟨u.slots,k b u (N b n) q⟩,fun b u q n _=>by rw[y4 (I b n)];show n,fun b u q _=>?_,
  fun b xs q=>by rw[y4 (hm b _ q fun z=>z)];show q,fun b u xs q=>by rw[y4 (hm b _ q fun z=>z)];show q,fun b ps q=>⟨#[],by rw[y4 (hm b _ q fun z=>z),q];simp⟩⟩
 by_cases i:b=e
 .subst i;show G
 .exact⟨u,k b u i q⟩
end
noncomputable def trk (h:Heap)(H:Hp):List Addr:=(List.range h.objs.size).filter fun a=>(H a).isSome
noncomputable def hidT (h:Heap)(H:Hp):Heap:=W.hideAll h (trk h H)
theorem ym2 (h:Heap)(H:Hp):(hidT h H).objs.size=h.objs.size:=W.hideAll_size _ _
theorem yc9 {h:Heap}{H:Hp}{b:Addr}{o:Obj}(e:h.get? b=some o)(n:H b=none):(hidT h H).get? b=some o:=
 W.hideAll_get _ e fun hm=>by
  have q:(H b).isSome=true:=(List.mem_filter.mp hm).2
  rw[n]at q;simp at q
theorem xs3 {h:Heap}{H:Hp}{b:Addr}{o:Obj}(e:(hidT h H).get? b=some o):h.get? b=some o/\H b=none:=by
 have i:h.get? b=some o:=W.of_hideAll (trk h H) e
 show⟨i,?_⟩
 cases q:H b with
 |none=>rfl
 |some x=>
  have hm:b∈trk h H:=List.mem_filter.mpr ⟨List.mem_range.mpr (Heap.lt_size i),by simp[q]⟩
  have z:(hidT h H).get? b=none:=W.hideAll_none (trk h H) hm
  rw[z]at e;ext e
noncomputable def xo9 (g h:Heap)(L:Addr):List (Addr×Obj):=(List.range h.objs.size).filterMap fun a=>if a=L\/(g.get? a).isSome=true then none else (h.get? a).map fun o=>(a,o)
noncomputable def rest (g h:Heap)(L d:Addr):List (Addr×Obj):=(xo9 g h L).filter fun p=>decide (p.1≠d)
end
section
structure Mod (K:W.Frag)(mg:Str->Option Value)(base:Heap):Prop where
 kin:K.In base
 glob:base.Ns mainGlobals mg
 blt:∃ mb,base.Ns builtinsNs mb/\∀ x:Str,x≠"__name__"->mb x=bootBuiltins x
 nolimit:base.NoLimit
structure Cx where
 prog:Program
 w:World
 K:W.Frag
 mg:Str->Option Value
 base:Heap
 A:Around
 N:List Str
 s₀:Shared
 H₀:Hp
 env:Env
 outer:List Env
 stack:List Env
 ex:List Addr
 fn:Str->Bool
 calm:Bool
 pn:List (Addr×Obj)
 xe:Value->Shared->Prop
noncomputable def frs (l:List Env):List Addr:=l.filterMap (·.frame)
noncomputable abbrev Cx.fs (X:Cx):List Addr:=frs X.outer
noncomputable def Vis (sc:Scope)(x:Str):Prop:=sc.names.lookup x=some .local\/sc.names.lookup x=some .cell\/sc.names.lookup x=some .free
noncomputable def Loc (sc:Scope)(x:Str):Prop:=sc.names.lookup x=some .local\/sc.names.lookup x=some .cell
noncomputable def Look (env:Env)(h:Heap)(m:Str->Option Value)(x:Str)(u:Value):Prop:=
 (env.kindOf x=some .local/\m x=some u)\/((env.kindOf x=some .cell\/env.kindOf x=some .free)/\∃ c,env.cells.lookup x=some c/\h.IsCell c (some u))
structure Cx.Ok (X:Cx):Prop where
 mod:Mod X.K X.mg X.base
 kind:X.env.scope.kind= .function
 glob:X.env.globals=mainGlobals
 blt:X.env.builtins=builtinsNs
 above:X.s₀.heap.objs.size<=X.env.locals
 inj:∀ x y c,X.env.cells.lookup x=some c->X.env.cells.lookup y=some c->x=y
 has:∀ x,(X.env.kindOf x=some .cell\/X.env.kindOf x=some .free)->∃ c,X.env.cells.lookup x=some c
 cab:∀ x c,X.fn x=true->X.env.cells.lookup x=some c->X.s₀.heap.objs.size<=c
 hd:X.calm=true->X.A.handled=none
 frames:X.A.frames=some X.stack
 stk:X.stack=X.outer\/(X.stack=X.env::X.outer/\X.env.frame=some X.env.locals)
 exf:∀ b∈X.ex,b≠X.env.locals/\∀ x c,X.env.cells.lookup x=some c->c≠b
 bs:∀ b o,X.base.get? b=some o->X.s₀.heap.get? b=some o/\X.H₀ b=none
 bsz:X.base.objs.size<=X.s₀.heap.objs.size
 noex:∀ b o,X.base.get? b=some o->b∉X.ex
 exfs:∀ b∈X.ex,b∉X.fs
 funs:X.s₀.heap.FunFrames X.base X.outer
 frf:∀ b∈X.fs,X.H₀ b=none
structure Inv (X:Cx)(pins:List (Addr×Obj))(σ:List (Option V))(H:Hp)(s:Shared):Prop where
 ok:X.Ok
 os:s.os=X.s₀.os
 bare:AllBare s.gens
 base:Un X.fs X.ex X.H₀ H X.s₀.heap s.heap
 loc:∃ m,s.heap.Ns X.env.locals m/\∀(i:Nat)(x:Str)(v:V),X.N[i]? =some x->σ[i]? =some (some v)->Vis X.env.scope x->∃ u,RelV v u/\Look X.env s.heap m x u
 cell:∀ x c,X.env.cells.lookup x=some c->∃ v,s.heap.IsCell c v
 free:H X.env.locals=none
 freeC:∀ x c,X.env.cells.lookup x=some c->H c=none
 pin:∀ p∈X.pn++pins,s.heap.get? p.1=some p.2/\H p.1=none/\p.1≠X.env.locals/\p.1∉X.fs/\∀ v,p.2.data≠ .cell v
 hok:HOk X.prog X.w H s.heap
 len:σ.length=X.N.length
section
variable {X:Cx}{pins:List (Addr×Obj)}{σ:List (Option V)}{H H':Hp}{s:Shared}{h':Heap}
theorem Cx.Ok.nofr (ok:X.Ok){b:Addr}{o:Obj}(e:X.base.get? b=some o):b∉X.fs:=fun i=>by
 have:=(ok.funs.mem i).1
 rw[e]at this;ext this
theorem Inv.bs (I:Inv X pins σ H s):∀ b o,X.base.get? b=some o->s.heap.get? b=some o/\H b=none:=fun b o e=>
 ⟨I.base.keep b o (I.ok.bs b o e).1 (I.ok.bs b o e).2 (I.ok.nofr e) (I.ok.noex b o e),I.base.free b o (I.ok.bs b o e).1 (I.ok.bs b o e).2 (I.ok.noex b o e)⟩
theorem Inv.bk (I:Inv X pins σ H s):∀ b o,X.base.get? b=some o->s.heap.get? b=some o:=fun b o e=>(I.bs b o e).1
theorem Inv.mod (I:Inv X pins σ H s):Mod X.K X.mg X.base:=I.ok.mod
theorem Inv.kIn (I:Inv X pins σ H s):X.K.In s.heap:=I.ok.mod.kin.keeps I.bk
theorem Inv.lt (I:Inv X pins σ H s):X.env.locals<s.heap.objs.size:=let ⟨_,hn,_⟩:=I.loc;hn.lt
theorem Inv.sz (I:Inv X pins σ H s):X.s₀.heap.objs.size<=s.heap.objs.size:=Nat.le_trans I.ok.above (Nat.le_of_lt I.lt)
theorem Inv.nofs (I:Inv X pins σ H s){a:Addr}(h:s.heap.objs.size<=a):a∉X.fs:=fun j=>by
 let⟨_,o,i,_⟩:=I.ok.funs.mem j
 show absurd (Nat.lt_of_lt_of_le (Heap.lt_size i) (Nat.le_trans I.sz h)) (Nat.lt_irrefl _)
theorem Inv.cne (I:Inv X pins σ H s):∀ x c,X.env.cells.lookup x=some c->c≠X.env.locals:=fun x c e z=>by
 let⟨v,o,G,hd⟩:=I.cell x c e
 let⟨m,⟨o',es,ep,i,j,_⟩,_⟩:=I.loc
 rw[z,i]at G;ext G;rw[j]at hd;ext hd
theorem Inv.funs (I:Inv X pins σ H s):s.heap.FunFrames X.base X.outer:=by
 have all:∀(l:List Env),(∀ b∈frs l,b∈X.fs)->X.s₀.heap.FunFrames X.base l->s.heap.FunFrames X.base l:=by
  intro l
  induction l with
  |nil=>intro _ _;trivial
  |cons env r N=>
   intro hs U
   let⟨Y,⟨L,o,i,hn,O,hd⟩,hr⟩:=U
   have G:L∈X.fs:=hs L (by delta frs;rw[filterMap_cons,i];show mem_cons_self)
   let⟨sl,e⟩:=I.base.slot L o O (I.ok.frf L G) G fun z=>I.ok.exfs L z G
   show⟨Y,⟨L,_,i,hn,e,hd⟩,N (fun b j=>hs b (by delta frs;rw[filterMap_cons,i];show mem_cons_of_mem _ j)) hr⟩
 show all X.outer (fun _ j=>j) I.ok.funs
theorem Inv.stack (I:Inv X pins σ H s):s.heap.FunFrames X.base X.stack:=by
 rcases I.ok.stk with e|⟨e,i⟩
 .rw[e];show I.funs
 .rw[e]
  let⟨m,hn,_⟩:=I.loc
  show .cons (by rw[I.ok.kind];decide) i hn ?_ I.funs
  show Heap.get?_none_of_le (Nat.le_trans I.ok.bsz I.ok.above)
theorem Inv.stkSub (I:Inv X pins σ H s):∀ b∈frs X.stack,b∈X.env.locals::X.fs:=fun b i=>by
 rcases I.ok.stk with e|⟨e,j⟩
 .rw[e]at i;show mem_cons_of_mem _ i
 .rw[e]at i
  delta frs at i
  rw[filterMap_cons,j]at i
  show i
theorem Inv.stkFree (I:Inv X pins σ H s):∀ b∈frs X.stack,H b=none:=fun b i=>by
 rcases List.mem_cons.mp (I.stkSub b i)with e|i
 .rw[e];show I.free
 .let⟨_,o,ho,_⟩:=I.ok.funs.mem i
  show I.base.free b o ho (I.ok.frf b i) fun z=>I.ok.exfs b z i
theorem Inv.step {g':Array GenState}{t':Nat}{d':Drawn}{ch:List Addr}(I:Inv X pins σ H s)
  (N:∀ b∈ch,(b∈X.ex\/X.s₀.heap.objs.size<=b)/\b≠X.env.locals/\(∀ x c,X.env.cells.lookup x=some c->c≠b)/\∀ p∈X.pn++pins,p.1≠b)
  (keep:∀ b o,b≠X.env.locals->b∉X.fs->b∉ch->s.heap.get? b=some o->H b=none->h'.get? b=some o)
  (slot:∀ b o,b≠X.env.locals->b∈X.fs->b∉ch->s.heap.get? b=some o->H b=none->∃ sl,h'.get? b=some { o with slots:=sl }) (free:∀ b o,b∉ch->s.heap.get? b=some o->H b=none->H' b=none)
  (there:∀ b o,b∉ch->s.heap.get? b=some o->∃ o',h'.get? b=some o')
  (tups:∀ b xs,H b=some (.tup xs)->H' b=some (.tup xs)) (frzs:∀ b o u,H b=some (.frz o u)->H' b=some (.frz o u)) (tbls:∀ b ps,H b=some (.tbl ps)->∃ more,H' b=some (.tbl (ps++more)))
  (ns:∀ m,s.heap.Ns X.env.locals m->h'.Ns X.env.locals m) (hok:HOk X.prog X.w H' h') (hg:AllBare g'):
  Inv X pins σ H' { s with heap:=h',gens:=g',drawn:=d',toks:=t' }:=by
 have a1:∀ b o,X.s₀.heap.get? b=some o->b≠X.env.locals:=fun b o e=>Nat.ne_of_lt (Nat.lt_of_lt_of_le (Heap.lt_size e) I.ok.above)
 have U:∀ b o,X.s₀.heap.get? b=some o->b∉X.ex->b∉ch:=fun b o e j Y=>by
  rcases (N b Y).1 with z|z
  .exact j z
  .exact absurd (Nat.lt_of_lt_of_le (Heap.lt_size e) z) (Nat.lt_irrefl _)
 have O:∀ x c,X.env.cells.lookup x=some c->∀ v,s.heap.IsCell c v->h'.IsCell c v:=fun x c e v a2=>by
  let⟨o,Z,hd⟩:=a2
  have G:c∉ch:=fun z=>(N c z).2.2.1 x c e rfl
  by_cases hc:c∈X.fs
  .let⟨sl,q⟩:=slot c o (I.cne x c e) hc G Z (I.freeC x c e)
   show⟨_,q,hd⟩
  .exact⟨o,keep c o (I.cne x c e) hc G Z (I.freeC x c e),hd⟩
 show⟨I.ok,I.os,hg,⟨fun b o e n Y j=>?_,fun b o e n Y j=>?_,fun b o e n j=>?_,fun b o e j=>?_,fun b xs e=>tups b xs (I.base.tups b xs e),fun b o xs e=>frzs b o xs (I.base.frzs b o xs e),fun b ps e=>?_⟩,?_,fun x c e=>?_,?_,fun x c e=>?_,fun p hp=>?_,hok,I.len⟩
 .exact keep b o (a1 b o e) Y (U b o e j) (I.base.keep b o e n Y j) (I.base.free b o e n j)
 .let⟨sl,e1⟩:=I.base.slot b o e n Y j
  let⟨a3,e2⟩:=slot b _ (a1 b o e) Y (U b o e j) e1 (I.base.free b o e n j)
  show⟨a3,e2⟩
 .let⟨o',e1⟩:=I.base.there b o e j
  show free b o' (U b o e j) e1 (I.base.free b o e n j)
 .let⟨o',e1⟩:=I.base.there b o e j
  show there b o' (U b o e j) e1
 .let⟨m1,e1⟩:=I.base.tbls b ps e
  let⟨m2,e2⟩:=tbls b _ e1
  show⟨m1++m2,by rw[e2,Array.append_assoc]⟩
 .let⟨m,hn,hl⟩:=I.loc
  show⟨m,ns m hn,fun i x v e1 e2 e3=>?_⟩
  let⟨u,r,l⟩:=hl i x v e1 e2 e3
  show⟨u,r,?_⟩
  rcases l with l|⟨k,c,e,z⟩
  .exact .inl l
  .exact .inr ⟨k,c,e,O x c e _ z⟩
 .let⟨v,z⟩:=I.cell x c e
  show⟨v,O x c e v z⟩
 .let⟨m,⟨o,_,_,Z,_⟩,_⟩:=I.loc
  show free _ o (fun z=>(N _ z).2.1 rfl) Z I.free
 .let⟨v,o,Z,hd⟩:=I.cell x c e
  show free c o (fun z=>(N c z).2.2.1 x c e rfl) Z (I.freeC x c e)
 .let⟨e,n,ne,nf,d⟩:=I.pin p hp
  have G:p.1∉ch:=fun z=>(N p.1 z).2.2.2 p hp rfl
  show⟨keep p.1 p.2 ne nf G e n,free p.1 p.2 G e n,ne,nf,d⟩
theorem Inv.un {t':Nat}(I:Inv X pins σ H s)(u:Un X.fs [] H H' s.heap h')(hok:HOk X.prog X.w H' h'):Inv X pins σ H' { s with heap:=h',toks:=t' }:=by
 let⟨m,⟨o,es,ep,O,r⟩,_⟩:=id I.loc
 let⟨sl,Y⟩:=u.any O I.free (by simp)
 show I.step (g':=s.gens) (d':=s.drawn) (ch:=[]) (fun _ z=>nomatch z) (fun b o _ j _ e n=>u.keep b o e n j (by simp)) (fun b o _ j _ e n=>u.slot b o e n j (by simp)) (fun b o _ e n=>u.free b o e n (by simp)) (fun b o _ e=>u.there b o e (by simp)) u.tups u.frzs u.tbls (fun Z hm=>by
  let⟨o',G,N,i,U⟩:=hm
  rw[O]at i;ext i
  show⟨_,G,N,Y,U⟩) hok I.bare
theorem Inv.call {g':Array GenState}{t':Nat}{d':Drawn}{ch:List Addr}(I:Inv X pins σ H s)(u:Un (frs X.stack) ch H H' s.heap h')(hok:HOk X.prog X.w H' h')(hg:AllBare g')
  (G:∀ b∈ch,(b∈X.ex\/X.s₀.heap.objs.size<=b)/\b≠X.env.locals/\(∀ x c,X.env.cells.lookup x=some c->c≠b)/\∀ p∈X.pn++pins,p.1≠b):
  Inv X pins σ H' { s with heap:=h',gens:=g',drawn:=d',toks:=t' }:=by
 let⟨m,⟨o,es,ep,Y,r⟩,_⟩:=id I.loc
 let⟨sl,N⟩:=u.any Y I.free fun z=>(G _ z).2.1 rfl
 show I.step (ch:=ch) G (fun b o N hb i e n=>u.keep b o e n (fun z=>(List.mem_cons.mp (I.stkSub b z)).elim N hb) i) (fun b o _ _ i e n=>u.any e n i) (fun b o i e n=>u.free b o e n i) (fun b o i e=>u.there b o e i) u.tups u.frzs u.tbls (fun m' hm=>by
  let⟨o',O,U,j,Z⟩:=hm
  rw[Y]at j;ext j
  show⟨_,O,U,N,Z⟩) hok hg
theorem Inv.turned {t':Nat}{it:Addr}(I:Inv X pins σ H s)(k:∀ b o,b≠it->s.heap.get? b=some o->h'.get? b=some o)(hn:H it=none)(G:it≠X.env.locals)
  (h1:it∈X.ex\/X.s₀.heap.objs.size<=it) (h2:∀ x c,X.env.cells.lookup x=some c->c≠it) (O:∀ p∈X.pn++pins,p.1≠it):Inv X pins σ H { s with heap:=h',toks:=t' }:=by
 have j:∀ b u,H b=some u->b≠it:=fun b u e z=>by rw[z,hn]at e;ext e
 show I.step (g':=s.gens) (d':=s.drawn) (ch:=[it]) (fun b N=>?_) (fun b o _ _ i e _=>k b o (fun z=>i (by simp[z])) e) (fun b o _ _ i e _=>⟨o.slots,k b o (fun z=>i (by simp[z])) e⟩) (fun _ _ _ _ n=>n)
  (fun b o i e=>⟨o,k b o (fun z=>i (by simp[z])) e⟩) (fun _ _ e=>e) (fun _ _ _ e=>e) (fun b ps e=>⟨#[],by rw[e];simp⟩) (fun m hm=>?_) (fun b u e=>?_) I.bare
 .have e:b=it:=by simpa using N
  subst e
  show⟨h1,G,h2,O⟩
 .let⟨o,es,ep,ho,r⟩:=hm
  show⟨o,es,ep,k _ o (Ne.symm G) ho,r⟩
 .refine(I.hok b u e).stay (fun c v i q=>k c v ?_ q) (fun _ q=>q) fun _ _ q=>q
  rcases i with z|z
  .rw[z];show j b u e
  .exact j c _ z
theorem Inv.tok (I:Inv X pins σ H s)(t:Nat):Inv X pins σ H { s with toks:=t }:=I.un (h':=s.heap) (t':=t) Un.refl I.hok
theorem Inv.kept {t':Nat}(I:Inv X pins σ H s)(k:∀ b u,s.heap.get? b=some u->h'.get? b=some u):Inv X pins σ H { s with heap:=h',toks:=t' }:=I.un (Un.kept k) (I.hok.kept k)
theorem Inv.laid {a:Addr}{o:HO}{t':Nat}(I:Inv X pins σ H s)(k:∀ b u,s.heap.get? b=some u->h'.get? b=some u)(hp:s.heap.objs.size<=a)(new:ObjOk X.prog X.w (upd H a o) h' a o):
  Inv X pins σ (upd H a o) { s with heap:=h',toks:=t' }:=I.un (Un.laid k hp (I.hok.fresh hp)) (I.hok.laid k hp new)
theorem Inv.write {x e:Addr}{o:HO}{t':Nat}(I:Inv X pins σ H s)(j:Mut (H x))(z:e=x\/H e=some (.own x))(k:∀ b u,b≠e->s.heap.get? b=some u->h'.get? b=some u)(i:∃ u,h'.get? e=some u)
  (new:ObjOk X.prog X.w (upd H x o) h' x o):Inv X pins σ (upd H x o) { s with heap:=h',toks:=t' }:=I.un (Un.write j z k i) (I.hok.write j z k i new)
theorem Inv.pins_of {pins':List (Addr×Obj)}(I:Inv X pins σ H s)(h:∀ p∈pins',s.heap.get? p.1=some p.2/\H p.1=none/\p.1≠X.env.locals/\p.1∉X.fs/\∀ v,p.2.data≠ .cell v):Inv X pins' σ H s:=
 ⟨I.ok,I.os,I.bare,I.base,I.loc,I.cell,I.free,I.freeC,fun p hp=>(List.mem_append.mp hp).elim (fun z=>I.pin p (mem_append_left _ z)) (h p),I.hok,I.len⟩
theorem zc9 {N:List Str}(z:N.Nodup){i j:Nat}{x:Str}(a:N[i]? =some x)(b:N[j]? =some x):i=j:=by
 let⟨h1,e1⟩:=List.getElem?_eq_some_iff.mp a
 let⟨h2,e2⟩:=List.getElem?_eq_some_iff.mp b
 show(getElem_inj z).mp (e1.trans e2.symm)
theorem zs5 {M:Model}{A:Around}{E:Value->Shared->Prop}{i:Nat}{x:Str}{v:V}{u:Value}{Q:Unit->Shared->Prop}(I:Inv X pins σ H s)(hN:X.N.Nodup)(hi:X.N[i]? =some x)(U:Loc X.env.scope x)(r:RelV v u)
  (h:∀ s',Inv X pins (σ.set i (some v)) H s'->(∃ a,Heap.SameBut a s.heap s'.heap/\(a=X.env.locals\/X.env.cells.lookup x=some a))->Q () s') (hf:X.fn x=true\/X.env.scope.names.lookup x=some .local:=by first|show .inl rfl|show .inr rfl|assumption):wpAny M A (storeName X.env x u) Q E s:=by
 let⟨m,hn,hl⟩:=id I.loc
 have a4:(X.env.scope.kind== .class || (X.env.scope.kind== .module&&X.env.locals != X.env.globals))=false:=by rw[I.ok.kind];rfl
 have a1:i<σ.length:=by rw[I.len];show(List.getElem?_eq_some_iff.mp hi).1
 have cne:=I.cne
 have G:∀{a:Addr}{h':Heap},(∃ o,s.heap.get? a=some o/\H a=none)->Heap.SameBut a s.heap h'->HOk X.prog X.w H h':=fun{a h'} ha hs b ob e=>by
  let⟨_,_,Y⟩:=ha
  show(I.hok b ob e).stay (fun c w' O q=>(hs.2 c ?_).trans q) (fun _ q=>q) fun _ _ q=>q
  rintro rfl
  rcases O with rfl|O
  .rw[Y]at e;ext e
  .rw[Y]at O;ext O
 rcases U with Z|Z
 .refine wpAny_storeName_local Z hn (fun h' a7 hs=>?_) a4
  let⟨oL,_,_,a6,_⟩:=id hn
  show h _ ⟨I.ok,I.os,I.bare,⟨fun b o e n hb U=>?_,fun b o e n hb U=>?_,I.base.free,fun b o e U=>?_,I.base.tups,I.base.frzs,I.base.tbls⟩,⟨_,a7,fun j y v' e1 e2 e3=>?_⟩,fun y c e=>?_,I.free,I.freeC,fun p hp=>?_,G ⟨oL,a6,I.free⟩ hs,by simpa using I.len⟩ ⟨_,hs,.inl rfl⟩
  .exact(hs.2 b (Nat.ne_of_lt (Nat.lt_of_lt_of_le (Heap.lt_size e) I.ok.above))).trans (I.base.keep b o e n hb U)
  .let⟨sl,e1⟩:=I.base.slot b o e n hb U
   show⟨sl,(hs.2 b (Nat.ne_of_lt (Nat.lt_of_lt_of_le (Heap.lt_size e) I.ok.above))).trans e1⟩
  .let⟨o',e1⟩:=I.base.there b o e U
   show⟨o',(hs.2 b (Nat.ne_of_lt (Nat.lt_of_lt_of_le (Heap.lt_size e) I.ok.above))).trans e1⟩
  .by_cases hj:j=i
   .subst hj
    rw[hi]at e1;ext e1
    rw[getElem?_set_self a1]at e2
    ext e2
    show⟨u,r,.inl ⟨Z,by simp⟩⟩
   .rw[getElem?_set_ne (Ne.symm hj)]at e2
    let⟨u',r',q⟩:=hl j y v' e1 e2 e3
    show⟨u',r',?_⟩
    rcases q with⟨k,e⟩|⟨k,c,e,z⟩
    .refine .inl ⟨k,?_⟩
     have:y≠x:=fun e=>hj (zc9 hN e1 (e ▸ hi))
     simp[this,e]
    .exact .inr ⟨k,c,e,z.sameBut hs (cne y c e)⟩
  .let⟨w',z⟩:=I.cell y c e
   show⟨w',z.sameBut hs (cne y c e)⟩
  .let⟨e,n,ne,nf,d⟩:=I.pin p hp
   show⟨(hs.2 p.1 ne).trans e,n,ne,nf,d⟩
 .have hfn:X.fn x=true:=by
   rcases hf with z|z
   .exact z
   .rw[z]at Z;ext Z
  let⟨c,O⟩:=I.ok.has x (.inl Z)
  let⟨w',z⟩:=I.cell x c O
  show wpAny_storeName_cell I.ok.kind Z O z (fun h' a5 hs=>?_)
  let⟨oc,a3,a2⟩:=id z
  show h { s with heap:=h' } ⟨I.ok,I.os,I.bare,⟨fun b o e n hb U=>?_,fun b o e n hb U=>?_,I.base.free,fun b o e U=>?_,I.base.tups,I.base.frzs,I.base.tbls⟩,⟨m,hn.sameBut hs (Ne.symm (cne x c O)),fun j y v' e1 e2 e3=>?_⟩,fun y c' e=>?_,I.free,I.freeC,fun p hp=>?_,G ⟨oc,a3,I.freeC x c O⟩ hs,by simpa using I.len⟩ ⟨c,hs,.inr O⟩
  .exact(hs.2 b (Nat.ne_of_lt (Nat.lt_of_lt_of_le (Heap.lt_size e) (I.ok.cab x c hfn O)))).trans (I.base.keep b o e n hb U)
  .let⟨sl,e1⟩:=I.base.slot b o e n hb U
   show⟨sl,(hs.2 b (Nat.ne_of_lt (Nat.lt_of_lt_of_le (Heap.lt_size e) (I.ok.cab x c hfn O)))).trans e1⟩
  .let⟨o',e1⟩:=I.base.there b o e U
   show⟨o',(hs.2 b (Nat.ne_of_lt (Nat.lt_of_lt_of_le (Heap.lt_size e) (I.ok.cab x c hfn O)))).trans e1⟩
  .by_cases hj:j=i
   .subst hj
    rw[hi]at e1;ext e1
    rw[getElem?_set_self a1]at e2
    ext e2
    show⟨u,r,.inr ⟨.inl Z,c,O,a5⟩⟩
   .rw[getElem?_set_ne (Ne.symm hj)]at e2
    let⟨u',r',q⟩:=hl j y v' e1 e2 e3
    show⟨u',r',?_⟩
    rcases q with q|⟨k,c',e,z'⟩
    .exact .inl q
    .refine .inr ⟨k,c',e,z'.sameBut hs ?_⟩
     rintro rfl
     show hj (zc9 hN e1 (I.ok.inj _ _ _ e O ▸ hi))
  .by_cases hcc:c'=c
   .subst hcc;show⟨_,a5⟩
   .let⟨w2,z2⟩:=I.cell y c' e
    show⟨w2,z2.sameBut hs hcc⟩
  .let⟨e,n,ne,nf,d⟩:=I.pin p hp
   show⟨(hs.2 p.1 ?_).trans e,n,ne,nf,d⟩
   intro q
   rw[q,a3]at e
   have q':oc=p.2:=Option.some.inj e
   show d w' (by rw[<-q'];show a2)
theorem ze9 {M:Model}{A:Around}{E:Value->Shared->Prop}{i:Nat}{x:Str}{v:V}{u:Value}{Q:Unit->Shared->Prop}(I:Inv X pins σ H s)(G:X.N.Nodup)(hi:X.N[i]? =some x)(j:Loc X.env.scope x)(r:RelV v u)
  (h:∀ s',Inv X pins (σ.set i (some v)) H s'->Q () s') (z:X.fn x=true\/X.env.scope.names.lookup x=some .local:=by first|show .inl rfl|show .inr rfl|assumption):wpAny M A (storeName X.env x u) Q E s:=
 zs5 I G hi j r (fun s' O _=>h s' O) z
theorem Inv.call' {s':Shared}{ch:List Addr}(I:Inv X pins σ H s)(j:s'.os=s.os)(u:Un (frs X.stack) ch H H' s.heap s'.heap)(hok:HOk X.prog X.w H' s'.heap)(z:AllBare s'.gens)
  (i:∀ b∈ch,(b∈X.ex\/X.s₀.heap.objs.size<=b)/\b≠X.env.locals/\(∀ x c,X.env.cells.lookup x=some c->c≠b)/\∀ p∈X.pn++pins,p.1≠b):Inv X pins σ H' s':=by
 let⟨h',g',d',t',o'⟩:=s'
 have e:o'=s.os:=j
 subst e
 show I.call (g':=g') (t':=t') (d':=d') u hok z i
end
noncomputable abbrev XK:=Value->Option Addr->Hp->Prop
noncomputable abbrev St:=List (Option V)
noncomputable abbrev VK:=V->Hp->Prop
noncomputable abbrev TE:=St->Hp->VK->Prop
noncomputable abbrev TT:=St->Hp->(Bool->Hp->Prop)->Prop
noncomputable abbrev TA:=St->Hp->(List V->Hp->Prop)->Prop
structure Ends where
 nx:St->Hp->Prop
 rt:VK
 bk:St->Hp->Prop:=fun _ _=>False
 ct:St->Hp->Prop:=fun _ _=>False
noncomputable abbrev TS:=Ends->St->Hp->Prop
noncomputable def EP (X:Cx)(pins:List (Addr×Obj))(σ:St)(Q:VK)(u:Value)(s':Shared):Prop:=∃ v H',Inv X pins σ H' s'/\RelV v u/\Q v H'
noncomputable def TP (X:Cx)(pins:List (Addr×Obj))(σ:St)(Q:Bool->Hp->Prop)(b:Bool)(s':Shared):Prop:=∃ H',Inv X pins σ H' s'/\Q b H'
noncomputable def AP (X:Cx)(pins:List (Addr×Obj))(σ:St)(Q:List V->Hp->Prop)(us:List Value)(s':Shared):Prop:=∃ vs H',Inv X pins σ H' s'/\Vals vs us/\Q vs H'
noncomputable def SP (X:Cx)(pins:List (Addr×Obj))(D:Ends)(f:Flow)(s':Shared):Prop:=
 match f with
 | .next=>∃ σ' H',Inv X pins σ' H' s'/\D.nx σ' H'
 | .brk=>∃ σ' H',Inv X pins σ' H' s'/\D.bk σ' H'
 | .cont=>∃ σ' H',Inv X pins σ' H' s'/\D.ct σ' H'
 | .ret u=>∃ v σ' H',Inv X pins σ' H' s'/\RelV v u/\D.rt v H'
noncomputable def PE (X:Cx)(e:Expr)(t:TE):Prop:=
 ∀(pins:List (Addr×Obj))(s:Shared)(σ:St)(H:Hp)(Q:VK),Inv X pins σ H s->t σ H Q->wpAny (model X.prog X.w) X.A (eval e X.env) (EP X pins σ Q) X.xe s
noncomputable def PT (X:Cx)(e:Expr)(t:TT):Prop:=
 ∀(pins:List (Addr×Obj))(s:Shared)(σ:St)(H:Hp)(Q:Bool->Hp->Prop),Inv X pins σ H s->t σ H Q->wpAny (model X.prog X.w) X.A (isTrue e X.env (eval e X.env)) (TP X pins σ Q) X.xe s
noncomputable def PW (X:Cx)(e:Expr)(t:TT):Prop:=
 ∀(whole:Sem Value)(pins:List (Addr×Obj))(s:Shared)(σ:St)(H:Hp)(Q:Bool->Hp->Prop),Inv X pins σ H s->t σ H Q->wpAny (model X.prog X.w) X.A (isTrue e X.env whole) (TP X pins σ Q) X.xe s
theorem PW.pt {X:Cx}{e:Expr}{t:TT}(h:PW X e t):PT X e t:=h _
noncomputable def PA (X:Cx)(es:List Expr)(t:TA):Prop:=
 ∀(pos:Pos)(pins:List (Addr×Obj))(s:Shared)(σ:St)(H:Hp)(Q:List V->Hp->Prop),Inv X pins σ H s->t σ H Q->wpAny (model X.prog X.w) X.A (spliced (backTo pos (starEach es X.env))) (AP X pins σ Q) X.xe s
noncomputable def PS (X:Cx)(st:Stmt)(t:TS):Prop:=
 ∀(pins:List (Addr×Obj))(s:Shared)(σ:St)(H:Hp)(D:Ends),Inv X pins σ H s->t D σ H->wpAny (model X.prog X.w) X.A (exec st X.env) (SP X pins D) X.xe s
noncomputable def PSs (X:Cx)(st:List Stmt)(t:TS):Prop:=
 ∀(pins:List (Addr×Obj))(s:Shared)(σ:St)(H:Hp)(D:Ends),Inv X pins σ H s->t D σ H->wpAny (model X.prog X.w) X.A (execs st X.env) (SP X pins D) X.xe s
theorem thn {α:Type}{t:Sem α}{Q i:α->Shared->Prop}{M:Model}{A:Around}{E:Value->Shared->Prop}{s:Shared}(h:wpAny M A t Q E s)(j:∀ a s,Q a s->i a s):wpAny M A t i E s:=wpAny_mono h j fun _ _ x=>x
end
section
section
variable {X:Cx}
noncomputable def tVar (i:Nat):TE:=fun σ H Q=>∃ v,σ[i]? =some (some v)/\Q v H
noncomputable def tC (v:V):TE:=fun _ H Q=>Q v H
theorem xi1 {i:Nat}{x:Str}{pos:Pos}(Z:X.N[i]? =some x)(U:Vis X.env.scope x)(hd:(x==("__debug__":Str))=false:=by decide)(G:(x==("__classdict__":Str))=false:=by decide):PE X (.Name x pos) (tVar i):=by
 intro pins s σ H Q I h
 let⟨v,e,h⟩:=h
 let⟨m,hn,Y⟩:=I.loc
 let⟨u,r,l⟩:=Y i x v Z e U
 have fin:EP X pins σ Q u s:=⟨v,H,I,r,h⟩
 rcases l with⟨z,hm⟩|⟨z,c,O,j⟩
 .exact wpAny_Name (wpAny_loadName_local I.ok.kind z hn hm fin) hd
 .rcases z with z|z
  .exact wpAny_Name (wpAny_loadName_cell I.ok.kind z O j fin) hd
  .exact wpAny_Name (wpAny_loadName_free I.ok.kind z O j fin G) hd
theorem pe_int {i j pos}:PE X (.Constant (.int i) j pos) (tC (.int i)):=fun _ _ _ H _ I h=>wpAny_Constant_int ⟨.int i,H,I.tok _,⟨_,rfl⟩,h⟩
theorem pe_bl {b j pos}:PE X (.Constant (.bool b) j pos) (tC (.bl b)):=fun _ _ _ H _ I h=>Constant_bool ⟨.bl b,H,I,rfl,h⟩
noncomputable def Gl (X:Cx)(x:Str):Prop:=X.env.kindOf x=some .globalImplicit
theorem yn5 {E:Value->Shared->Prop}{pins:List (Addr×Obj)}{s:Shared}{σ:St}{H:Hp}{x:Str}{u:Value}{pos:Pos}{Q:Value->Shared->Prop}(I:Inv X pins σ H s)(i:Gl X x)(hm:X.mg x=some u)(h:Q u s)
  (hd:(x==("__debug__":Str))=false:=by decide):wpAny (model X.prog X.w) X.A (eval (.Name x pos) X.env) Q E s:=
 Calls.Name_function_global I.ok.kind i (Calls.loadGlobal_global (by rw[I.ok.glob];show I.mod.glob.keeps I.bk) hm h) hd
theorem U7 {E:Value->Shared->Prop}{pins:List (Addr×Obj)}{s:Shared}{σ:St}{H:Hp}{x:Str}{u:Value}{pos:Pos}{Q:Value->Shared->Prop}(I:Inv X pins σ H s)(j:Gl X x)(hm:X.mg x=none)(i:bootBuiltins x=some u)(h:Q u s)
  (hn:x≠"__name__":=by decide) (hd:(x==("__debug__":Str))=false:=by decide):wpAny (model X.prog X.w) X.A (eval (.Name x pos) X.env) Q E s:=by
 let⟨mb,h1,h2⟩:=I.mod.blt
 show Calls.Name_function_global I.ok.kind j (Calls.loadGlobal_builtin (by rw[I.ok.glob];show I.mod.glob.keeps I.bk) hm (by rw[I.ok.blt];show h1.keeps I.bk) ((h2 x hn).trans i) h) hd
theorem ys6 {x:Str}{v:V}{u:Value}{pos:Pos}(i:Gl X x)(hm:X.mg x=some u)(r:RelV v u)(hd:(x==("__debug__":Str))=false:=by decide):PE X (.Name x pos) (tC v):=
 fun _ _ _ H _ I h=>yn5 I i hm ⟨v,H,I,r,h⟩ hd
theorem xu8 {x:Str}{v:V}{u:Value}{pos:Pos}(j:Gl X x)(hm:X.mg x=none)(i:bootBuiltins x=some u)(r:RelV v u)(hn:x≠"__name__":=by decide)(hd:(x==("__debug__":Str))=false:=by decide):PE X (.Name x pos) (tC v):=
 fun _ _ _ H _ I h=>U7 I j hm i ⟨v,H,I,r,h⟩ hn hd
variable {a b:Expr}{ta tb:TE}{pos:Pos}
noncomputable def tB (t:TE):TT:=fun σ H Q=>t σ H fun x H1=>∃ c,x= .bl c/\Q c H1
variable {tA tB':TT}{rest:List Expr}
noncomputable def tAnd (t u:TT):TT:=fun σ H Q=>t σ H fun c H1=>if c=true then u σ H1 Q else Q false H1
noncomputable def tOr (t u:TT):TT:=fun σ H Q=>t σ H fun c H1=>if c=true then Q true H1 else u σ H1 Q
noncomputable def tNot (t:TT):TT:=fun σ H Q=>t σ H fun c H1=>Q (!c) H1
theorem xv5 (ha:PT X a tA):PW X (.BoolOp .And [a] pos) tA:=by
 intro i pins s σ H Q I h
 show isTrue_and (thn (ha pins s σ H Q I h) fun c s1 e=>?_)
 cases c with
 |true=>show isTrue_and_nil e
 |false=>show e
theorem xj6 (ha:PT X a tA):PW X (.BoolOp .Or [a] pos) tA:=by
 intro i pins s σ H Q I h
 show isTrue_or (thn (ha pins s σ H Q I h) fun c s1 e=>?_)
 cases c with
 |false=>show isTrue_or_nil e
 |true=>show e
theorem xj7 (ha:PT X a tA)(N:PW X (.BoolOp .And (b::rest) pos) tB'):PW X (.BoolOp .And (a::b::rest) pos) (tAnd tA tB'):=by
 intro G pins s σ H Q I h
 show isTrue_and (thn (ha pins s σ H _ I h) fun c s1 i=>?_)
 let⟨H1,z,j⟩:=i
 cases c with
 |true=>show N G pins s1 σ H1 Q z j
 |false=>show⟨H1,z,j⟩
theorem wz0 (ha:PT X a tA)(N:PW X (.BoolOp .Or (b::rest) pos) tB'):PW X (.BoolOp .Or (a::b::rest) pos) (tOr tA tB'):=by
 intro G pins s σ H Q I h
 show isTrue_or (thn (ha pins s σ H _ I h) fun c s1 i=>?_)
 let⟨H1,z,j⟩:=i
 cases c with
 |true=>show⟨H1,z,j⟩
 |false=>show N G pins s1 σ H1 Q z j
theorem xz1 (ha:PT X a tA):PT X (.UnaryOp .Not a pos) (tNot tA):=by
 intro pins s σ H Q I h
 show isTrue_not (ha pins s σ H (fun c H1=>Q (!c) H1) I h)
noncomputable def xa2 (ta tb:TE):TE:=fun σ H Q=>ta σ H fun x H1=>∃ c,x= .bl c/\if c=true then tb σ H1 Q else Q (.bl false) H1
theorem xz3 {op}{t:TE}(h:PE X a t):PE X (.BoolOp op [a] pos) t:=fun pins s σ H Q I hw=>BoolOp_one (h pins s σ H Q I hw)
theorem xz4 (ha:PE X a ta)(G:PE X (.BoolOp .And (b::rest) pos) tb):PE X (.BoolOp .And (a::b::rest) pos) (xa2 ta tb):=by
 intro pins s σ H Q I h
 show BoolOp_and (thn (ha pins s σ H _ I h) fun v s1 i=>?_)
 let⟨x,H1,z,r1,j⟩:=i
 let⟨c,rfl,j⟩:=j
 ext r1
 show wpAny_truthy_bool ?_
 cases c with
 |true=>show G pins s1 σ H1 Q z j
 |false=>show⟨.bl false,H1,z,rfl,j⟩
end
end
section
noncomputable def SqL (K:W.Frag)(H:Hp)(a:Addr)(xs:List V):Prop:=
 Rd H a (.lst xs)\/
  ∃(o:Obj)(its:Array Value)(n:Nat),K.lookup a=some o/\o.cls= .type "list"/\o.dict=none/\o.data= .seq its n/\its.size<=sizeLine/\Vals xs its.toList
noncomputable def SqT (K:W.Frag)(H:Hp)(a:Addr)(xs:List V):Prop:=
 Rd H a (.tup xs)\/
  ∃(o:Obj)(its:Array Value)(n:Nat),K.lookup a=some o/\o.cls= .type "tuple"/\o.data= .seq its n/\its.size<=sizeLine/\Vals xs its.toList
noncomputable def absV:Value->Option V
 | .none=>some .non
 | .bool b=>some (.bl b)
 | .int i _=>some (.int i)
 | .str x _=>some (.str x)
 | .bytes b _=>some (.byt b)
 | .float b _=>some (.flt b)
 | .ref a=>some (.ref a)
 | .type n=>some (.ty n)
 |_=>none
theorem RelV.abs {x:V}{u:Value}(r:RelV x u):absV u=some x:=by
 cases x with
 |non=>ext r;rfl
 |bl _=>ext r;rfl
 |int _=>let⟨t,rfl⟩:=r;rfl
 |str _=>let⟨t,rfl⟩:=r;rfl
 |byt _=>let⟨t,rfl⟩:=r;rfl
 |flt _=>let⟨t,rfl⟩:=r;rfl
 |ref _=>ext r;rfl
 |ty _=>ext r;rfl
theorem RelV.inj {x y:V}{u:Value}(r:RelV x u)(q:RelV y u):x=y:=Option.some.inj (r.abs.symm.trans q.abs)
theorem Vals.inj:∀{xs ys:List V}{us:List Value},Vals xs us->Vals ys us->xs=ys:=by
 intro x a b r;induction r generalizing a with
 |nil=>intro s;cases s;rfl
 |cons r t i=>intro s;cases s with|cons c u=>rw[r.inj c,i u]
section
variable {X:Cx}{pins:List (Addr×Obj)}{σ:St}{H:Hp}{s:Shared}{a:Addr}{xs ys:List V}
theorem SqL.of {K:W.Frag}(h:H a=some (.lst xs)):SqL K H a xs:=.inl (.inl h)
theorem SqT.of {K:W.Frag}(h:H a=some (.tup xs)):SqT K H a xs:=.inl (.inl h)
theorem Inv.list (I:Inv X pins σ H s)(h:SqL X.K H a xs):∃ its:List Value,Vals xs its/\PlainL s.heap a its.toArray/\xs.length<=sizeLine:=by
 rcases h with h|⟨o,its,n,i,j,hd,hs,G,r⟩
 .let⟨z,its,n,r,e⟩:=h.ok I.hok
  show⟨its,r,⟨_,n,e,rfl,rfl,rfl⟩,z⟩
 .refine⟨its.toList,r,⟨o,n,I.kIn a o i,j,hd,by simpa using hs⟩,?_⟩
  have e:=r.length
  simp only[Array.length_toList]at e
  lia
theorem Inv.tuple (I:Inv X pins σ H s)(h:SqT X.K H a xs):∃ its:List Value,Vals xs its/\IsTup s.heap a its.toArray/\xs.length<=sizeLine:=by
 rcases h with h|⟨o,its,n,i,j,hs,G,r⟩
 .let⟨z,its,r,p⟩:=h.ok I.hok
  show⟨its,r,p,z⟩
 .refine⟨its.toList,r,⟨o,I.kIn a o i,j,n,by simpa using hs⟩,?_⟩
  have e:=r.length
  simp only[Array.length_toList]at e
  lia
theorem Inv.list_inj (I:Inv X pins σ H s)(h:SqL X.K H a xs)(h':SqL X.K H a ys):xs=ys:=by
 let⟨its,r,⟨o,n,e,_,_,d⟩,_⟩:=I.list h
 let⟨its',j,⟨o',n',i,_,_,d'⟩,_⟩:=I.list h'
 rw[e]at i;ext i
 rw[d]at d'
 injection d' with z _
 have:its=its':=by simpa using congrArg Array.toList z
 subst this
 show r.inj j
theorem Inv.tuple_inj (I:Inv X pins σ H s)(h:SqT X.K H a xs)(h':SqT X.K H a ys):xs=ys:=by
 let⟨its,r,⟨o,e,_,n,d⟩,_⟩:=I.tuple h
 let⟨its',j,⟨o',i,_,n',d'⟩,_⟩:=I.tuple h'
 rw[e]at i;ext i
 rw[d]at d'
 injection d' with z _
 have:its=its':=by simpa using congrArg Array.toList z
 subst this
 show r.inj j
end
noncomputable abbrev Cx.wish (X:Cx)(E:Value->Shared->Prop):Cx:={ X with xe:=E }
noncomputable abbrev Cx.nox (X:Cx):Cx:=X.wish fun _ _=>False
theorem Cx.Ok.wish {X:Cx}(ok:X.Ok)(E:Value->Shared->Prop):(X.wish E).Ok:=
 ⟨ok.mod,ok.kind,ok.glob,ok.blt,ok.above,ok.inj,ok.has,ok.cab,ok.hd,ok.frames,ok.stk,ok.exf,ok.bs,ok.bsz,ok.noex,ok.exfs,ok.funs,ok.frf⟩
theorem Cx.Ok.unwish {X:Cx}{E:Value->Shared->Prop}(ok:(X.wish E).Ok):X.Ok:=
 ⟨ok.mod,ok.kind,ok.glob,ok.blt,ok.above,ok.inj,ok.has,ok.cab,ok.hd,ok.frames,ok.stk,ok.exf,ok.bs,ok.bsz,ok.noex,ok.exfs,ok.funs,ok.frf⟩
section
variable {X:Cx}{pins:List (Addr×Obj)}{σ:St}{H:Hp}{s:Shared}{E:Value->Shared->Prop}
theorem Inv.wish (I:Inv X pins σ H s)(E:Value->Shared->Prop):Inv (X.wish E) pins σ H s:=⟨I.ok.wish E,I.os,I.bare,I.base,I.loc,I.cell,I.free,I.freeC,I.pin,I.hok,I.len⟩
theorem Inv.unwish (I:Inv (X.wish E) pins σ H s):Inv X pins σ H s:=⟨I.ok.unwish,I.os,I.bare,I.base,I.loc,I.cell,I.free,I.freeC,I.pin,I.hok,I.len⟩
theorem SP.unwish {D:Ends}{f:Flow}{s':Shared}(h:SP (X.wish E) pins D f s'):SP X pins D f s':=by
 cases f with
 |next=>let⟨i,H',I,q⟩:=h;show⟨i,H',I.unwish,q⟩
 |brk=>let⟨i,H',I,q⟩:=h;show⟨i,H',I.unwish,q⟩
 |cont=>let⟨i,H',I,q⟩:=h;show⟨i,H',I.unwish,q⟩
 |ret u=>let⟨v,i,H',I,r,q⟩:=h;show⟨v,i,H',I.unwish,r,q⟩
theorem PSs.nox {st:List Stmt}{t:TS}(h:PSs X.nox st t):PSs X st t:=fun pins s σ H D I hw=>
 wpAny_mono (h pins s σ H D (I.wish _) hw) (fun _ _ q=>q.unwish) fun _ _ z=>False.elim z
end
section
variable {X:Cx}{st:Stmt}{rest:List Stmt}{t u:TS}{e:Expr}{te:TE}{pos:Pos}
noncomputable def xb9:TS:=fun D σ H=>D.nx σ H
noncomputable def tSeq (t u:TS):TS:=fun D σ H=>t { D with nx:=u D } σ H
theorem pss_nil:PSs X [] xb9:=fun _ _ σ H _ I h=>wpAny_execs_nil ⟨σ,H,I,h⟩
theorem F6 (h1:PS X st t)(h2:PSs X rest u):PSs X (st::rest) (tSeq t u):=by
 intro pins s σ H D I h
 show wpAny_execs_cons (thn (h1 pins s σ H { D with nx:=u D } I h) fun f s1 q=>?_)
 cases f with
 |next=>
  let⟨i,H',j,q⟩:=q
  show h2 pins s1 i H' D j q
 |ret v=>show q
 |brk=>show q
 |cont=>show q
theorem zv4 (h1:PS X st t):PSs X [st] t:=by
 intro pins s σ H D I h
 show wpAny_execs_cons (thn (h1 pins s σ H D I h) fun f s1 q=>?_)
 cases f with
 |next=>show wpAny_execs_nil q
 |ret v=>show q
 |brk=>show q
 |cont=>show q
theorem Inv.quiet {pins:List (Addr×Obj)}{σ:St}{H:Hp}{s:Shared}(I:Inv X pins σ H s):interactive X.env=false:=by simp[interactive,I.ok.kind]
noncomputable def xa1 (te:TE):TS:=fun D σ H=>te σ H fun _ H1=>D.nx σ H1
theorem zj4 (j:PE X e te)(hs:swapsWith e none pos.line X.env=pure false:=by rfl):PS X (.Expr e pos) (xa1 te):=by
 intro pins s σ H D I h
 show wpAny_Expr_any (thn (j pins s σ H _ I h) fun v s1 zQ=>by let⟨x,H1,z,r1,i⟩:=zQ;show ⟨σ,H1,z,i⟩) I.quiet hs
noncomputable def tRet (te:TE):TS:=fun D σ H=>te σ H D.rt
theorem K5 (j:PE X e te):PS X (.Return (some e) pos) (tRet te):=by
 intro pins s σ H D I h
 show wpAny_Return_some (thn (j pins s σ H _ I h) fun v s1 zQ=>by let⟨x,H1,z,r1,i⟩:=zQ;show ⟨x,σ,H1,z,r1,i⟩)
noncomputable def tIfS (c:TT)(t u:TS):TS:=fun D σ H=>c σ H fun b H1=>if b=true then t D σ H1 else u D σ H1
theorem yf1 {c:Expr}{a b:List Stmt}{tc:TT}(G:PT X c tc)(ha:PSs X a t)(N:PSs X b u):PS X (.If c a b pos) (tIfS tc t u):=by
 intro pins s σ H D I h
 show wpAny_If (thn (G pins s σ H _ I h) fun d s1 i=>?_)
 let⟨H1,z,j⟩:=i
 cases d with
 |true=>show ha pins s1 σ H1 D z j
 |false=>show N pins s1 σ H1 D z j
noncomputable def xk1:TS:=fun _ _ _=>False
theorem ps_never:PS X st xk1:=fun _ _ _ _ _ _ h=>h.elim
end
noncomputable abbrev TG:=V->St->Hp->(St->Hp->Prop)->Prop
noncomputable abbrev TGs:=List V->St->Hp->(St->Hp->Prop)->Prop
noncomputable def PG (X:Cx)(target:Expr)(t:TG):Prop:=
 ∀(pins:List (Addr×Obj))(s:Shared)(σ:St)(H:Hp)(v:V)(u:Value)(Q:St->Hp->Prop),Inv X pins σ H s->RelV v u->t v σ H Q->
  wpAny (model X.prog X.w) X.A (assign target X.env u) (fun _ s'=>∃ σ' H',Inv X pins σ' H' s'/\Q σ' H') X.xe s
noncomputable def PGs (X:Cx)(ts:List Expr)(t:TGs):Prop:=
 ∀(pins:List (Addr×Obj))(s:Shared)(σ:St)(H:Hp)(vs:List V)(us:List Value)(Q:St->Hp->Prop),Inv X pins σ H s->Vals vs us->t vs σ H Q->
  wpAny (model X.prog X.w) X.A (assignInOrder ((assignEach ts X.env).map (·.2)) us) (fun _ s'=>∃ σ' H',Inv X pins σ' H' s'/\Q σ' H') X.xe s
noncomputable abbrev TSet:=V->V->V->Hp->(Hp->Prop)->Prop
noncomputable def PSet (X:Cx)(t:TSet):Prop:=
 ∀(pins:List (Addr×Obj))(s:Shared)(σ:St)(H:Hp)(o i v:V)(ov iv u:Value)(Q:Hp->Prop),Inv X pins σ H s->RelV o ov->RelV i iv->RelV v u->t o i v H Q->
  wpAny (model X.prog X.w) X.A (setItem ov iv u) (fun _ s'=>∃ H',Inv X pins σ H' s'/\Q H') X.xe s
section
variable {X:Cx}{pos:Pos}
noncomputable def X3 (i:Nat):TG:=fun v σ H Q=>Q (σ.set i (some v)) H
theorem x9 {i:Nat}{x:Str}(G:X.N.Nodup)(hi:X.N[i]? =some x)(j:Loc X.env.scope x)(z:X.fn x=true\/X.env.scope.names.lookup x=some .local:=by first|show .inl rfl|show .inr rfl|assumption):PG X (.Name x pos) (X3 i):=by
 intro pins s σ H v u Q I r h
 show wpAny_assign_Name (ze9 I G hi j r (fun s' O=>⟨_,H,O,h⟩) z)
noncomputable def gNil:TGs:=fun vs σ H Q=>vs=[]/\Q σ H
noncomputable def yb0 (t:TG)(u:TGs):TGs:=fun vs σ H Q=>∃ v r,vs=v::r/\t v σ H fun σ' H'=>u r σ' H' Q
theorem R5:PGs X [] gNil:=by
 intro pins s σ H vs us Q I r h
 let⟨e,h⟩:=h
 subst e
 ext r
 show assignInOrder_nil ⟨σ,H,I,h⟩
theorem n6 {e:Expr}{es:List Expr}{t:TG}{u:TGs}(h1:PG X e t)(h2:PGs X es u)
  (hs:(assignEach (e::es) X.env).map (·.2)=assign e X.env::(assignEach es X.env).map (·.2):=by rfl):PGs X (e::es) (yb0 t u):=by
 intro pins s σ H vs us Q I r h
 let⟨v,N,e1,h⟩:=h
 subst e1
 cases r with
 |cons r rr=>
  rw[hs]
  show assignInOrder_cons (thn (h1 pins s σ H _ _ _ I r h) fun _ s1 i=>?_)
  let⟨j,H1,G,z⟩:=i
  show h2 pins s1 j H1 _ _ Q G rr z
noncomputable def gTup (K:W.Frag)(n:Nat)(t:TGs):TG:=fun v σ H Q=>∃ a xs,v= .ref a/\SqT K H a xs/\xs.length=n/\t xs σ H Q
theorem K6 {es:List Expr}{k:Nat}{t:TGs}{n:Nat}(U:X.calm=true)(h:PGs X es t)
  (hn:(assignEach es X.env).length=n:=by rfl) (i:(assignEach es X.env).findIdx? (·.1)=none:=by rfl):PG X (.Tuple es k pos) (gTup X.K n t):=by
 intro pins s σ H v u Q I r hw
 let⟨a,xs,e1,N,O,hw⟩:=hw
 subst e1
 ext r
 let⟨its,j,G,Z⟩:=I.tuple N
 show assign_Tuple_tuple (I.ok.hd U) G (by simp[hn,<-O,j.length]) i fun h' z=>?_
 have Y:Inv X pins σ H { s with heap:=h' }:=I.kept (t':=s.toks) fun b o e=>z b o (Nat.ne_of_lt (Heap.lt_size e)) e
 show h pins _ σ H xs _ Q Y (by simpa using j) hw
noncomputable def gSub (to ti:TE)(t:TSet):TG:=fun v σ H Q=>to σ H fun o H1=>ti σ H1 fun i H2=>t o i v H2 fun H3=>Q σ H3
theorem K7 {o i:Expr}{to N:TE}{t:TSet}(Z:PE X o to)(hi:PE X i N)(hs:PSet X t)
  (ha:∀ v,assign (.Subscript o i pos) X.env v=(do
   let z ← holding [v] (eval o X.env)
   let G ← holding [v,z] (eval i X.env)
   standAt pos
   holding [v,z,G] (setItem z G v)
   release [v,z,G] []):=by intro _;rfl):PG X (.Subscript o i pos) (gSub to N t):=by
 intro pins s σ H v u Q I r h
 rw[ha]
 show wpAny_bind (wpAny_holding (thn (Z pins s σ H _ I h) fun z s1 j=>?_))
 let⟨x,H1,I1,r1,Y⟩:=j
 show wpAny_bind (wpAny_holding (thn (hi pins s1 σ H1 _ I1 Y) fun G s2 j=>?_))
 let⟨y,H2,I2,r2,U⟩:=j
 show wpAny_bind (wpAny_standAt (wpAny_bind (wpAny_holding (thn (hs pins s2 σ H2 x y v z G u _ I2 r1 r2 r U) fun _ s3 j=>?_))))
 let⟨H3,I3,O⟩:=j
 show wpAny_release ⟨σ,H3,I3,O⟩
noncomputable def tAsg (te:TE)(g:TG):TS:=fun D σ H=>te σ H fun x H1=>g x σ H1 D.nx
theorem S5 {tg e:Expr}{te:TE}{g:TG}(G:PE X e te)(z:PG X tg g)(hs:swapsWithSole [tg] e pos.line X.env=pure false:=by rfl)(hw:swappedStores [tg] e X.env=pure none:=by rfl)
  (h1:(assignEach [tg] X.env).map (·.2)=[assign tg X.env]:=by rfl):PS X (.Assign [tg] e pos) (tAsg te g):=by
 intro pins s σ H D I h
 show wpAny_Assign_stores (thn (G pins s σ H _ I h) fun v s1 i=>?_) hs hw
 let⟨x,H1,N,r1,j⟩:=i
 rw[h1]
 show thn (z pins s1 σ H1 x v _ N r1 j) fun _ s2 q=>q
theorem zr6 {i:Nat}{x:Str}{e:Expr}{te:TE}{pos':Pos}(Y:X.N.Nodup)(hi:X.N[i]? =some x)(G:Loc X.env.scope x)(U:PE X e te)(hs:swapsWith e (some (.Name x pos')) pos.line X.env=pure false:=by rfl)(O:X.fn x=true\/X.env.scope.names.lookup x=some .local:=by first|show .inl rfl|show .inr rfl|assumption):
  PS X (.Assign [.Name x pos'] e pos) (tAsg te (X3 i)):=by
 intro pins s σ H D I h
 show wpAny_Assign_Name (thn (U pins s σ H _ I h) fun v s1 j=>?_) hs
 let⟨y,H1,I1,r1,z⟩:=j
 show ze9 I1 Y hi G r1 (fun s2 Z=>⟨_,H1,Z,z⟩) O
end
section
variable {X:Cx}{pos:Pos}
noncomputable def xk0 (c:TT)(tb:TS):TS:=fun D σ H=>∃ W:Nat->St->Hp->Prop,(∃ m,W m σ H)/\∀ m σ H,W m σ H->
 c σ H fun b H1=>if b=true then ∃ N:St->Hp->Prop,(∀ σ' H',N σ' H'->∃ m',m'<m/\W m' σ' H')/\tb { D with nx:=N,ct:=N,bk:=D.nx } σ H1 else D.nx σ H1
theorem yf0 {c:Expr}{body:List Stmt}{tc:TT}{tb:TS}(hp:PassesOwn (model X.prog X.w) X.A X.env X.xe)(hc:PT X c tc)(hb:PSs X body tb):PS X (.While c body [] pos) (xk0 tc tb):=by
 intro pins s σ H D I h
 let⟨W,⟨m0,w0⟩,turn⟩:=h
 show wpAny_While (codeAny_whileLoop (fun n s'=>∃ z H',Inv X pins z H' s'/\W n z H') ?_ m0 ⟨σ,H,I,w0⟩)
 rintro n s1 ⟨j,H1,I1,w1⟩
 show wpAny_passesOwn hp (thn (hc pins s1 j H1 _ I1 (turn n j H1 w1)) fun b s2 G=>?_)
 let⟨H2,I2,Y⟩:=G
 cases b with
 |true=>
  let⟨N,hN,Y⟩:=Y
  rw[if_pos rfl]
  show wpAny_passesOwn hp (thn (hb pins s2 j H2 _ I2 Y) fun f s3 U=>?_)
  cases f with
  |next=>
   let⟨i,O,I3,n3⟩:=U
   let⟨m',hm,Z⟩:=hN i O n3
   show⟨m',hm,i,O,I3,Z⟩
  |cont=>
   let⟨i,O,I3,n3⟩:=U
   let⟨m',hm,Z⟩:=hN i O n3
   show⟨m',hm,i,O,I3,Z⟩
  |brk=>show U
  |ret v=>show U
 |false=>
  rw[if_neg Bool.false_ne_true]
  show wpAny_execs_nil ⟨j,H2,I2,Y⟩
end
structure It where
 go:Nat->Hp->Prop
 yld:Nat->Hp->V->Hp->Prop
 stop:Nat->Hp->Prop
noncomputable def FpOk (X:Cx)(pins:List (Addr×Obj))(H:Hp)(b:Addr):Prop:=
 H b=none/\b≠X.env.locals/\b∉X.fs/\(b∈X.ex\/X.s₀.heap.objs.size<=b)/\(∀ x c,X.env.cells.lookup x=some c->c≠b)/\∀ p∈X.pn++pins,p.1≠b
theorem Inv.fpOk {X:Cx}{pins:List (Addr×Obj)}{σ:St}{H H':Hp}{s:Shared}{b:Addr}(I:Inv X pins σ H s)(i:s.heap.objs.size<=b)(hn:H' b=none):FpOk X pins H' b:=by
 show⟨hn,Nat.ne_of_gt (Nat.lt_of_lt_of_le I.lt i),I.nofs i,.inr (Nat.le_trans I.sz i),fun x c e z=>?_,fun p hp z=>?_⟩
 .let⟨v,q⟩:=I.cell x c e
  show absurd (Nat.lt_of_lt_of_le q.lt (by rw[z];show i)) (Nat.lt_irrefl _)
 .exact absurd (Nat.lt_of_lt_of_le (Heap.lt_size (I.pin p hp).1) (by rw[z];show i)) (Nat.lt_irrefl _)
structure TurnC (cx:Cx->Prop)(P:Program)(w:World)(K:W.Frag)(tg:Expr)(J:It)(fp:List Addr)(it:Addr)(tn:Nat->Heap->Prop):Prop where
 mem:it∈fp
 obj:∀ i h,tn i h->∀ b∈fp,∃ o,h.get? b=some o/\∀ v,o.data≠ .cell v
 keep:∀ i h h',tn i h->(∀ b∈fp,∀ o,h.get? b=some o->h'.get? b=some o)->tn i h'
 item:∀(X:Cx),X.prog=P->X.w=w->X.K=K->cx X->∀(i:Nat)(pins:List (Addr×Obj))(s:Shared)(σ:St)(H:Hp)(E:Value->Shared->Prop),Inv X pins σ H s->(∀ b∈fp,FpOk X pins H b)->tn i s.heap->J.go i H->
  wpAny (model P w) X.A (pyNext (.ref it)) (fun r s1=>∃ u,r=some u/\
   wpAny (model P w) X.A (letOwnedTupleGo tg (.ref it) u) (fun _ s2=>∃ x H',Inv X pins σ H' s2/\RelV x u/\J.yld i H x H'/\tn (i+1) s2.heap/\∀ b∈fp,H' b=none) E s1) E s
 done:∀(X:Cx),X.prog=P->X.w=w->X.K=K->cx X->∀(i:Nat)(pins:List (Addr×Obj))(s:Shared)(σ:St)(H:Hp)(E:Value->Shared->Prop),Inv X pins σ H s->(∀ b∈fp,FpOk X pins H b)->tn i s.heap->J.stop i H->
  wpAny (model P w) X.A (pyNext (.ref it)) (fun r s1=>r=none/\Inv X pins σ H s1) E s
 self:∀(A:Around)(i:Nat)(s:Shared)(Q:Value->Shared->Prop)(E:Value->Shared->Prop),tn i s.heap->Q (.ref it) s->wpAny (model P w) A (pyIter (.ref it)) Q E s
noncomputable abbrev Turn (P:Program)(w:World)(K:W.Frag)(tg:Expr)(J:It)(fp:List Addr)(it:Addr)(tn:Nat->Heap->Prop):Prop:=TurnC (fun X=>X.calm=true) P w K tg J fp it tn
noncomputable abbrev TI:=St->Hp->(It->Hp->Prop)->Prop
noncomputable def PIE (X:Cx)(pins:List (Addr×Obj))(σ:St)(tg:Expr)(R:It->Hp->Prop)(itv:Value)(s2:Shared):Prop:=
 ∃(it:Addr)(fp:List Addr)(tn:Nat->Heap->Prop)(J:It)(H':Hp),itv= .ref it/\Inv X pins σ H' s2/\Turn X.prog X.w X.K tg J fp it tn/\tn 0 s2.heap/\(∀ b∈fp,FpOk X pins H' b)/\R J H'
noncomputable def PI (X:Cx)(tg iter:Expr)(wi:TI):Prop:=
 ∀(pins:List (Addr×Obj))(s:Shared)(σ:St)(H:Hp)(R:It->Hp->Prop),Inv X pins σ H s->wi σ H R->
  wpAny (model X.prog X.w) X.A (eval iter X.env) (fun v s1=>wpAny (model X.prog X.w) X.A (pyIter v) (PIE X pins σ tg R) X.xe s1) X.xe s
theorem xq2 {M:Model}{A:Around}{E:Value->Shared->Prop}{s:Shared}{tg:Expr}{it:Addr}{u:Value}{o:Obj}{n:String}{vs:Array Value}{Q:Unit->Shared->Prop}(j:s.heap.get? it=some o)(z:o.cls= .type n)(hd:o.data= .fields vs)
  (hn:["enumerate","zip","dict_itemiterator","dict_reverseitemiterator","odict_iterator","itertools.zip_longest","itertools.pairwise"].contains n=false) (i:Q () s):wpAny M A (letOwnedTupleGo tg (.ref it) u) Q E s:=by
 unfold letOwnedTupleGo
 ext tg <;> first
  |show wpAny_pure i
  | (ext u <;> first
    |show wpAny_pure i
    | (show wpAny_bind (wpAny_load j ?_)
       rw[z,hd]
       show wpAny M A (if (["enumerate","zip","dict_itemiterator","dict_reverseitemiterator","odict_iterator","itertools.zip_longest","itertools.pairwise"].contains n&&vs[0]? ==some (rawInt _))=true then _ else _) Q E s
       rw[if_neg (by intro h;rw[hn,Bool.false_and]at h;ext h)]
       show wpAny_pure i))
noncomputable def Itl (K:W.Frag)(a:Addr):It:=
 ⟨fun i H=>∃ xs x,SqL K H a xs/\xs[i]? =some x,fun i H x H'=>H'=H/\∀ xs,SqL K H a xs->xs[i]? =some x,fun i H=>∃ xs,SqL K H a xs/\xs.length<=i⟩
noncomputable def Itr (lo:Int)(n:Nat):It:=⟨fun i _=>i<n,fun i H x H'=>H'=H/\x= .int (lo+i),fun i _=>n<=i⟩
theorem yv9 {P:Program}{w:World}{K:W.Frag}{tg:Expr}(a it:Addr):Turn P w K tg (Itl K a) [it] it (fun i h=>h.IsListIter it a i) where
 mem:=by simp
 obj:=fun i h st b j=>by
  have e:b=it:=by simpa using j
  subst e
  let⟨o,e,c,d⟩:=st
  show⟨o,e,fun v z=>by rw[d]at z;cases z⟩
 keep:=fun i h h' st k=>st.at fun o e=>k it (by simp) o e
 item:=by
  intro X Z hw hK hc i pins s σ H E I N st Y
  subst Z hw hK
  let⟨xs,x,G,U⟩:=Y
  let⟨its,O,p,hz⟩:=I.list G
  let⟨u,hu,ru⟩:=O.get U
  let⟨f0,f1,f2,f3,f4,f5⟩:=N it (by simp)
  show wpAny_pyNext_list_item st p.isList (x:=u) (by simpa using hu) fun h' st' sb=>?_
  have I1:Inv X pins σ H { s with heap:=h' }:=I.turned (t':=s.toks) (fun b o j e=>(sb.2 b j).trans e) f0 f1 f3 f4 f5
  let⟨o,e,c,d⟩:=id st'
  show⟨u,rfl,xq2 (s:={ s with heap:=h' }) e c d (by decide) ⟨x,H,I1,ru,⟨rfl,fun ys hy=>by rw[I.list_inj hy G];show U⟩,st',fun b j=>(N b j).1⟩⟩
 done:=by
  intro X Z hw hK hc i pins s σ H E I N st Y
  subst Z hw hK
  let⟨xs,G,U⟩:=Y
  let⟨its,O,p,hz⟩:=I.list G
  let⟨f0,f1,f2,f3,f4,f5⟩:=N it (by simp)
  have hl:=O.length
  show wpAny_pyNext_list_end (I.ok.hd hc) st p.isList (by simp;lia) fun h' eb=>⟨rfl,I.turned (t':=s.toks) (fun b o j e=>eb b o j e) f0 f1 f3 f4 f5⟩
 self:=fun _ _ _ _ _ st h=>wpAny_pyIter_listiter st h
theorem yy4 {P:Program}{w:World}{K:PySem.W.Frag}{tg:Expr}(it:Addr)(lo:Int)(n:Nat):Turn P w K tg (Itr lo n) [it] it (fun i h=>IsRangeIter h it (lo+(i:Nat)*1) ((n:Int)-(i:Nat)) 1) where
 mem:=by simp
 obj:=fun i h st b j=>by
  have e:b=it:=by simpa using j
  subst e
  show⟨_,st,fun v z=>by
   have z':Data.fields _=Data.cell v:=z
   cases z'⟩
 keep:=fun i h h' st k=>k it (by simp) _ st
 item:=by
  intro X U hw Y O i pins s σ H E I G st N
  subst U hw Y
  let⟨f0,f1,f2,f3,f4,Z⟩:=G it (by simp)
  have W:=Walks.range (prog:=X.prog) (w:=X.w) (I.ok.hd O) it lo 1 n
  show W.item i s _ _ N st fun v h' tk hv st' kk=>?_
  let⟨t,rfl⟩:=hv
  have I1:Inv X pins σ H { s with heap:=h',toks:=tk }:=I.turned (fun b o j e=>kk b o (by simpa using j) e) f0 f1 f3 f4 Z
  show⟨_,rfl,xq2 (s:={ s with heap:=h',toks:=tk }) (n:="range_iterator") st' rfl rfl (by decide) ⟨.int (lo+i),H,I1,⟨t,?_⟩,⟨rfl,rfl⟩,st',fun b j=>(G b j).1⟩⟩
  rw[Int.mul_one]
 done:=by
  intro X U hw Y O i pins s σ H E I G st N
  subst U hw Y
  let⟨f0,f1,f2,f3,f4,Z⟩:=G it (by simp)
  show wpAny_pyNext_range_end (I.ok.hd O) st (by have:n<=i:=N;lia) fun h' eb=>⟨rfl,I.turned (t':=s.toks) (fun b o j e=>eb b o j e) f0 f1 f3 f4 Z⟩
 self:=fun _ _ _ _ _ st h=>wpAny_pyIter_rangeiter st h
end
section
section
variable {X:Cx}{tg:Expr}
noncomputable def wx2 (K:W.Frag)(tl:TE):TI:=fun σ H R=>tl σ H fun x H1=>∃ a,x= .ref a/\(∃ xs,SqL K H1 a xs)/\R (Itl K a) H1
theorem xu5 {l:Expr}{tl:TE}(N:PE X l tl):PI X tg l (wx2 X.K tl):=by
 intro pins s σ H R I h
 show thn (N pins s σ H _ I h) fun v s1 i=>?_
 let⟨x,H1,j,r1,z⟩:=i
 let⟨a,e,⟨xs,G⟩,q⟩:=z
 subst e
 ext r1
 let⟨its,U,p,Y⟩:=j.list G
 show wpAny_pyIter_list p.isList ?_
 show⟨s1.heap.objs.size,[s1.heap.objs.size],_,_,H1,rfl,j.kept (t':=s1.toks) fun b o e=>Heap.get?_push_of_some _ e,yv9 a _,⟨_,Heap.get?_push_size _ rfl,rfl,rfl⟩,fun b O=>?_,q⟩
 have e:b=s1.heap.objs.size:=by simpa using O
 subst e
 show j.fpOk (Nat.le_refl _) (j.hok.fresh (Nat.le_refl _))
theorem zd4 {pins:List (Addr×Obj)}{σ:St}{H:Hp}{s:Shared}{R:It->Hp->Prop}{E:Value->Shared->Prop}{lo hi:Int}{t u v:Tok}{tk:Nat}(I:Inv X pins σ H s)(h1:-(2^62)<=lo)(h2:lo<2^62)(G:-(2^62)<=hi)(z:hi<2^62)
  (q:R (Itr lo (hi-lo).toNat) H):wpAny (model X.prog X.w) X.A (pyIter (.ref s.heap.objs.size)) (PIE X pins σ tg R) E { s with heap:=s.heap.push { cls:=.type "range",data:=.fields #[.int lo t,.int hi u,.int 1 v] },toks:=tk }:=by
 show wpAny_pyIter_range (IsRange.new ..) (small_one h1 h2 G z) ?_
 have i:Inv X pins σ H { s with heap:=s.heap.push { cls:=.type "range",data:=.fields #[.int lo t,.int hi u,.int 1 v] },toks:=tk }:=I.kept fun b o e=>Heap.get?_push_of_some _ e
 show⟨(s.heap.push { cls:=.type "range",data:=.fields #[.int lo t,.int hi u,.int 1 v] }).objs.size,[(s.heap.push { cls:=.type "range",data:=.fields #[.int lo t,.int hi u,.int 1 v] }).objs.size],_,_,H,rfl,
  i.kept (t':=tk) fun b o e=>Heap.get?_push_of_some _ e,yy4 _ lo (hi-lo).toNat,?_,fun b j=>?_,q⟩
 .have e1:lo+((0:Nat):Int)*1=lo:=by simp
  have e2:(((hi-lo).toNat:Nat):Int)-((0:Nat):Int)=Builtin.Range.rangeSize lo hi 1:=by rw[rangeSize_one];split <;> lia
  show IsRangeIter _ _ (lo+((0:Nat):Int)*1) ((((hi-lo).toNat:Nat):Int)-((0:Nat):Int)) 1
  rw[e1,e2]
  show Heap.get?_push_size _ rfl
 .have e:b=(s.heap.push { cls:=.type "range",data:=.fields #[.int lo t,.int hi u,.int 1 v] }).objs.size:=by simpa using j
  subst e
  show i.fpOk (Nat.le_refl _) (i.hok.fresh (Nat.le_refl _))
noncomputable def wx1 (ta:TA):TI:=fun σ H R=>ta σ H fun vs H1=>∃ j:Int,vs=[.int j]/\ -(2^62)<=j/\j<2^62/\R (Itr 0 j.toNat) H1
noncomputable def wx0 (ta:TA):TI:=fun σ H R=>ta σ H fun vs H1=>∃ i j:Int,vs=[.int i,.int j]/\(-(2^62)<=i/\i<2^62/\ -(2^62)<=j/\j<2^62)/\R (Itr i (j-i).toNat) H1
theorem zq0 {a:Expr}{ta:TA}{p pos:Pos}(N:Gl X "range")(hm:X.mg "range"=none)(ha:PA X [a] ta)(hs:starEach [a] X.env=[(false,eval a X.env)]:=by rfl):PI X tg (.Call (.Name "range" p) [a] [] pos) (wx1 ta):=by
 intro pins s σ H R I h
 show Call_ (U7 I N hm boot_range (PyProof.Rows.callWith_type1 (thn (ha pos pins s σ H _ I h) fun us s1 i=>?_) hs rfl))
 let⟨vs,H1,O,r1,z⟩:=i
 let⟨j,e,z,G,q⟩:=z
 subst e
 cases r1 with
 |cons r rr=>
  ext rr
  let⟨t,rfl⟩:=r
  show call_range_1 (zd4 O (by lia) (by lia) z G (by simpa using q))
theorem ys3 {a b:Expr}{ta:TA}{p pos:Pos}(hg:Gl X "range")(hm:X.mg "range"=none)(ha:PA X [a,b] ta)(hs:starEach [a,b] X.env=[(false,eval a X.env),(false,eval b X.env)]:=by rfl)(z:starEach [b] X.env=[(false,eval b X.env)]:=by rfl):
  PI X tg (.Call (.Name "range" p) [a,b] [] pos) (wx0 ta):=by
 intro pins s σ H R I h
 show Call_ (U7 I hg hm boot_range (PyProof.Rows.callWith_type1 (thn (ha pos pins s σ H _ I h) fun us s1 G=>?_) (by rw[hs,z]) (by rw[z];rfl)))
 let⟨vs,H1,I1,r1,N⟩:=G
 let⟨i,j,e,⟨N,Z,Y,U⟩,q⟩:=N
 subst e
 cases r1 with
 |cons r rr=>
  cases rr with
  |cons O rr=>
   ext rr
   let⟨t,rfl⟩:=r
   let⟨t',rfl⟩:=O
   show call_range_2 (zd4 I1 N Z Y U q)
noncomputable def tFor (wi:TI)(g:TG)(tb:TS):TS:=fun D σ H=>wi σ H fun J H1=>∃ W:Nat->Nat->St->Hp->Prop,(∃ m,W 0 m σ H1)/\∀ i m σ H,W i m σ H->
 (J.stop i H/\D.nx σ H)\/(J.go i H/\∃ N:St->Hp->Prop,(∀ σ' H',N σ' H'->∃ m',m'<m/\W (i+1) m' σ' H')/\∀ x H',J.yld i H x H'->g x σ H' fun σ2 H2=>tb { D with nx:=N,ct:=N,bk:=D.nx } σ2 H2)
noncomputable def zr8 (fp:List Addr)(h:Heap):List (Addr×Obj):=fp.filterMap fun b=>(h.get? b).map fun o=>(b,o)
theorem Q7 {fp:List Addr}{h:Heap}{b:Addr}{o:Obj}(i:b∈fp)(e:h.get? b=some o):(b,o)∈zr8 fp h:=List.mem_filterMap.mpr ⟨b,i,by rw[e];rfl⟩
theorem yq4 {fp:List Addr}{h:Heap}{p:Addr×Obj}(hp:p∈zr8 fp h):p.1∈fp/\h.get? p.1=some p.2:=by
 let⟨b,i,e⟩:=List.mem_filterMap.mp hp
 cases q:h.get? b with
 |none=>rw[q]at e;ext e
 |some o=>
  rw[q]at e
  have j:(b,o)=p:=Option.some.inj e
  subst j
  show⟨i,q⟩
theorem Inv.pinned {pins:List (Addr×Obj)}{σ:St}{H:Hp}{s:Shared}{fp:List Addr}(I:Inv X pins σ H s)(N:∀ b∈fp,FpOk X pins H b)(G:∀ b∈fp,∃ o,s.heap.get? b=some o/\∀ v,o.data≠ .cell v):Inv X (pins++zr8 fp s.heap) σ H s:=
 I.pins_of fun p hp=>(List.mem_append.mp hp).elim (fun z=>I.pin p (mem_append_right _ z)) fun z=>by
  let⟨i,e⟩:=yq4 z
  let⟨Y,U,O,_⟩:=N p.1 i
  let⟨o,j,d⟩:=G p.1 i
  rw[e]at j;ext j
  show⟨e,Y,U,O,d⟩
theorem Inv.unpinned {pins pl:List (Addr×Obj)}{σ:St}{H:Hp}{s:Shared}(I:Inv X (pins++pl) σ H s):Inv X pins σ H s:=I.pins_of fun p hp=>I.pin p (mem_append_right _ (mem_append_left _ hp))
theorem zd9 {iter:Expr}{body:List Stmt}{wi:TI}{g:TG}{tb:TS}{pos:Pos}(hp:PassesOwn (model X.prog X.w) X.A X.env X.xe)(hc:X.calm=true)(hi:PI X tg iter wi)(hg:PG X tg g)(Y:PSs X body tb)
  (hs:∀ x,foldedSetIterable iter X.env x=pure x:=by intro _;rfl):PS X (.For tg iter body [] pos) (tFor wi g tb):=by
 intro pins s σ H D I h
 show wpAny_For (thn (hi pins s σ H _ I h) fun v s1 h1=>thn h1 fun a8 s2 h2=>?_) hs
 let⟨it,fp,tn,J,H2,e,I2,T,a5,f2,W,⟨m0,w0⟩,turn⟩:=h2
 subst e
 have O:∀{H':Hp},(∀ b∈fp,H' b=none)->∀ b∈fp,FpOk X pins H' b:=fun hn b Y=>⟨hn b Y,(f2 b Y).2⟩
 show codeAny_forLoop_any (fun n s'=>∃ i G H',Inv X pins G H' s'/\tn i s'.heap/\(∀ b∈fp,H' b=none)/\W i n G H') ?_ m0 ⟨0,σ,H2,I2,a5,fun b Y=>(f2 b Y).1,w0⟩
 rintro n s3 ⟨i,z,H3,I3,a2,a3,w3⟩
 rcases turn i n z H3 w3 with⟨stop,qn⟩|⟨go,N,hN,step⟩
 .refine wpAny_passesOwn hp (thn (T.done X rfl rfl rfl hc i pins s3 z H3 X.xe I3 (O a3) a2 stop) fun r s4 ⟨hr,I4⟩=>?_)
  subst hr
  show wpAny_execs_nil ⟨z,H3,I4,qn⟩
 .refine wpAny_passesOwn hp (thn (T.item X rfl rfl rfl hc i pins s3 z H3 X.xe I3 (O a3) a2 go) fun r s4 ⟨u,hr,h4⟩=>?_)
  subst hr
  show wpAny_passesOwn hp (thn h4 fun _ s5 U=>?_)
  let⟨x,H5,I5,r5,y5,a1,a6⟩:=U
  have a7:=I5.pinned (O a6) (T.obj _ _ a1)
  show wpAny_passesOwn hp (thn (hg _ s5 z H5 x u _ a7 r5 (step x H5 y5)) fun _ s6 U=>?_)
  let⟨a4,H6,I6,q6⟩:=U
  show wpAny_passesOwn hp (thn (Y _ s6 a4 H6 _ I6 q6) fun f s7 q7=>?_)
  have again:∀{j:St}{H7:Hp},Inv X (pins++zr8 fp s5.heap) j H7 s7->N j H7->∃ m,m<n/\∃ i G H',Inv X pins G H' s7/\tn i s7.heap/\(∀ b∈fp,H' b=none)/\W i m G H':=fun{j H7} Z n7=>by
   let⟨m',hm,w7⟩:=hN j H7 n7
   show⟨m',hm,i+1,j,H7,Z.unpinned,T.keep _ _ _ a1 fun b Y o e=>(Z.pin (b,o) (mem_append_right _ (mem_append_right _ (Q7 Y e)))).1,fun b Y=>?_,w7⟩
   let⟨o,e,d⟩:=T.obj _ _ a1 b Y
   show(Z.pin (b,o) (mem_append_right _ (mem_append_right _ (Q7 Y e)))).2.1
  cases f with
  |next=>let⟨j,H7,Z,n7⟩:=q7;show again Z n7
  |cont=>let⟨j,H7,Z,n7⟩:=q7;show again Z n7
  |brk=>let⟨j,H7,Z,q7⟩:=q7;show⟨j,H7,Z.unpinned,q7⟩
  |ret v=>let⟨x7,j,H7,Z,r7,q7⟩:=q7;show⟨x7,j,H7,Z.unpinned,r7,q7⟩
end
end
section
noncomputable abbrev R2:=V->V->Hp->VK->Prop
noncomputable def OpR (X:Cx)(f:Value->Value->Sem Value)(r:R2):Prop:=
 ∀(pins:List (Addr×Obj))(s:Shared)(σ:St)(H:Hp)(x y:V)(v u:Value)(Q:VK),Inv X pins σ H s->RelV x v->RelV y u->r x y H Q->
  wpAny (model X.prog X.w) X.A (f v u) (EP X pins σ Q) X.xe s
noncomputable def UnR (X:Cx)(f:Value->Sem Value)(r:V->Hp->VK->Prop):Prop:=
 ∀(pins:List (Addr×Obj))(s:Shared)(σ:St)(H:Hp)(x:V)(v:Value)(Q:VK),Inv X pins σ H s->RelV x v->r x H Q->
  wpAny (model X.prog X.w) X.A (f v) (EP X pins σ Q) X.xe s
noncomputable def G7 (X:Cx)(f:Value)(r:List V->Hp->VK->Prop):Prop:=
 ∀(pins:List (Addr×Obj))(s:Shared)(σ:St)(H:Hp)(xs:List V)(us:List Value)(Q:VK),Inv X pins σ H s->Vals xs us->r xs H Q->
  wpAny (model X.prog X.w) X.A (call f us) (EP X pins σ Q) X.xe s
noncomputable def TruR (X:Cx)(r:V->Hp->(Bool->Hp->Prop)->Prop):Prop:=
 ∀(pins:List (Addr×Obj))(s:Shared)(σ:St)(H:Hp)(x:V)(v:Value)(Q:Bool->Hp->Prop),Inv X pins σ H s->RelV x v->r x H Q->
  wpAny (model X.prog X.w) X.A (truthy v) (TP X pins σ Q) X.xe s
noncomputable def tOp (r:R2)(ta tb:TE):TE:=fun σ H Q=>ta σ H fun x H1=>tb σ H1 fun y H2=>r x y H2 Q
noncomputable def tUn (r:V->Hp->VK->Prop)(ta:TE):TE:=fun σ H Q=>ta σ H fun x H1=>r x H1 Q
noncomputable def rI (C:Int->Int->Prop)(g:Int->Int->V):R2:=fun x y H Q=>∃ i j,x= .int i/\y= .int j/\C i j/\Q (g i j) H
noncomputable def rI0 (g:Int->Int->V):R2:=fun x y H Q=>∃ i j,x= .int i/\y= .int j/\Q (g i j) H
noncomputable def rU (g:Int->V):V->Hp->VK->Prop:=fun x H Q=>∃ i,x= .int i/\Q (g i) H
section
variable {X:Cx}{a b c:Expr}{ta tb tc:TE}{pos:Pos}
theorem binT (ha:PE X a ta)(U:PE X b tb){pins:List (Addr×Obj)}{s:Shared}{σ:St}{H:Hp}{R:V->V->Hp->Prop}(I:Inv X pins σ H s)
  (h:ta σ H fun x H1=>tb σ H1 fun y H2=>R x y H2) {Q:Value->Shared->Prop} {f:Value->Value->Sem Value}
  (O:∀ v u s2 x y H2,Inv X pins σ H2 s2->RelV x v->RelV y u->R x y H2->wpAny (model X.prog X.w) X.A (f v u) Q X.xe s2):
  wpAny (model X.prog X.w) X.A (eval a X.env) (fun v z=>wpAny (model X.prog X.w) X.A (eval b X.env) (fun u j=>wpAny (model X.prog X.w) X.A (f v u) Q X.xe j) X.xe z) X.xe s:=by
 show thn (ha pins s σ H _ I h) fun v s1 i=>?_
 let⟨x,H1,Z,r1,N⟩:=i
 show thn (U pins s1 σ H1 _ Z N) fun u s2 i=>?_
 let⟨y,H2,Y,r2,G⟩:=i
 show O v u s2 x y H2 Y r1 r2 G
theorem yf6 {op:Operator}{r:R2}(z:OpR X (binaryOp op) r)(ha:PE X a ta)(G:PE X b tb):PE X (.BinOp a op b pos) (tOp r ta tb):=by
 intro pins s σ H Q I h
 show wpAny_BinOp (binT ha G I h fun v u s2 x y H2 N j i q=>z pins s2 σ H2 x y v u Q N j i q)
theorem wz1 {op:UnaryOp}{r:V->Hp->VK->Prop}(j:UnR X (unaryOp op) r)(ha:PE X a ta):PE X (.UnaryOp op a pos) (tUn r ta):=by
 intro pins s σ H Q I h
 show UnaryOp_ (thn (ha pins s σ H _ I h) fun v s1 zQ=>by let⟨x,H1,z,r1,i⟩:=zQ;show j pins s1 σ H1 x v Q z r1 i)
theorem opI {f:Value->Value->Sem Value}{C:Int->Int->Prop}{g:Int->Int->Int}
  (rule:∀(i j:Int)(t u:Tok)(s:Shared)(Q:Value->Shared->Prop)(E:Value->Shared->Prop),C i j->Q (.int (g i j) s.toks) { s with toks:=s.toks+1 }->wpAny (model X.prog X.w) X.A (f (.int i t) (.int j u)) Q E s):
  OpR X f (rI C fun i j=>.int (g i j)):=by
 intro pins s σ H x y v u Q I G z h
 let⟨i,j,rfl,rfl,N,q⟩:=h
 let⟨t,rfl⟩:=G
 let⟨t',rfl⟩:=z
 show rule i j t t' s _ _ N ⟨.int (g i j),H,I.tok _,⟨_,rfl⟩,q⟩
theorem opI0 {f:Value->Value->Sem Value}{g:Int->Int->Int}
  (rule:∀(i j:Int)(t u:Tok)(s:Shared)(Q:Value->Shared->Prop)(E:Value->Shared->Prop),Q (.int (g i j) s.toks) { s with toks:=s.toks+1 }->wpAny (model X.prog X.w) X.A (f (.int i t) (.int j u)) Q E s):
  OpR X f (rI0 fun i j=>.int (g i j)):=by
 intro pins s σ H x y v u Q I G z h
 let⟨i,j,rfl,rfl,q⟩:=h
 let⟨t,rfl⟩:=G
 let⟨t',rfl⟩:=z
 show rule i j t t' s _ _ ⟨.int (g i j),H,I.tok _,⟨_,rfl⟩,q⟩
theorem opB0 {f:Value->Value->Sem Value}{g:Int->Int->Bool}
  (rule:∀(i j:Int)(t u:Tok)(s:Shared)(Q:Value->Shared->Prop)(E:Value->Shared->Prop),Q (.bool (g i j)) s->wpAny (model X.prog X.w) X.A (f (.int i t) (.int j u)) Q E s):
  OpR X f (rI0 fun i j=>.bl (g i j)):=by
 intro pins s σ H x y v u Q I G z h
 let⟨i,j,rfl,rfl,q⟩:=h
 let⟨t,rfl⟩:=G
 let⟨t',rfl⟩:=z
 show rule i j t t' s _ _ ⟨.bl (g i j),H,I,rfl,q⟩
noncomputable def CDiv (i j:Int):Prop:=0<j/\j<1073741824
noncomputable def CPow (i j:Int):Prop:=0<=j/\j<=1000000/\i.natAbs<2^64
noncomputable def CMul (i j:Int):Prop:=(-(2^64)<i/\i<2^64)\/(-(2^64)<j/\j<2^64)
theorem CMul.ok {i j:Int}(h:CMul i j):IntMulOk i j:=by
 rcases h with⟨h1,h2⟩|⟨h1,h2⟩
 .exact .of_left (intBits_le_64 h1 h2)
 .exact .of_right (intBits_le_64 h1 h2)
theorem P5:OpR X (binaryOp .Add) (rI0 fun i j=>.int (i+j)):=opI0 fun _ _ _ _ _ _ _ q=>add_int q
theorem yq0:OpR X (binaryOp .Sub) (rI0 fun i j=>.int (i-j)):=opI0 fun _ _ _ _ _ _ _ q=>sub_int q
theorem yq2:OpR X (binaryOp .Mult) (rI CMul fun i j=>.int (i*j)):=opI fun _ _ _ _ _ _ _ z q=>mul_int q z.ok
theorem xt9:OpR X (binaryOp .FloorDiv) (rI CDiv fun i j=>.int (i / j)):=opI fun i j _ _ _ _ _ z q=>by
 have h1:(0:Int)<j:=z.1
 have h2:j<1073741824:=z.2
 show floordiv_int (by lia) (by rw[Int.fdiv_eq_ediv_of_nonneg i (by lia)];show q) (.inl (PyProof.noPylong_small (by lia)))
theorem xh2:OpR X (binaryOp .Mod) (rI (fun _ j=>0<j) fun i j=>.int (i % j)):=opI fun i j _ _ _ _ _ z q=>by
 have h1:(0:Int)<j:=z
 show mod_int' (by lia) (by rw[Int.fmod_eq_emod_of_nonneg i (by lia)];show q)
theorem xh1:OpR X (binaryOp .Pow) (rI CPow fun i j=>.int (i^j.toNat)):=opI fun _ _ _ _ _ _ _ z q=>pow_int_small z.1 z.2.1 z.2.2 q
theorem unI {f:Value->Sem Value}{g:Int->Int}
  (rule:∀(i:Int)(t:Tok)(s:Shared)(Q:Value->Shared->Prop)(E:Value->Shared->Prop),Q (.int (g i) s.toks) { s with toks:=s.toks+1 }->wpAny (model X.prog X.w) X.A (f (.int i t)) Q E s):
  UnR X f (rU fun i=>.int (g i)):=by
 intro pins s σ H x v Q I j h
 let⟨i,rfl,q⟩:=h
 let⟨t,rfl⟩:=j
 show rule i t s _ _ ⟨.int (g i),H,I.tok _,⟨_,rfl⟩,q⟩
theorem xm3:UnR X (unaryOp .USub) (rU fun i=>.int (-i)):=unI fun _ _ _ _ _ q=>neg_int q
end
noncomputable def scal:V->V->Bool
 | .non,.non=>true| .non,.int _=>true| .int _,.non=>true| .non,.bl _=>true| .bl _,.non=>true| .non,.str _=>true| .str _,.non=>true
 | .int _,.int _=>true| .bl _,.bl _=>true| .str _,.str _=>true| .byt _,.byt _=>true
 | .int _,.str _=>true| .str _,.int _=>true| .bl _,.str _=>true| .str _,.bl _=>true
 |_,_=>false
noncomputable def rEq:R2:=fun x y H Q=>scal x y=true/\Q (.bl (decide (x=y))) H
theorem yk5 {i j:Int}:decide (V.int i=V.int j)=(i==j):=by
 rw[Bool.eq_iff_iff]
 simp
theorem xx2 {i j:Bool}:decide (V.bl i=V.bl j)=(i==j):=by
 rw[Bool.eq_iff_iff]
 simp
theorem yk4 {i j:Str}:decide (V.str i=V.str j)=(i==j):=by
 rw[Bool.eq_iff_iff]
 simp
theorem xp1 {i j:Array UInt8}:decide (V.byt i=V.byt j)=(i.toList==j.toList):=by
 rw[Bool.eq_iff_iff]
 ext i
 ext j
 simp
section
variable {X:Cx}{a b c:Expr}{ta tb tc:TE}{pos:Pos}
theorem X4 {pins:List (Addr×Obj)}{σ:St}{H:Hp}{s:Shared}{Q:VK}{k k':Bool}(I:Inv X pins σ H s)(q:Q (.bl k) H)(e:k=k'):EP X pins σ Q (.bool k') s:=by
 subst e
 show⟨.bl k,H,I,rfl,q⟩
theorem M8:OpR X (compareOp .Eq) rEq:=by
 intro pins s σ H x y v u Q I G z h
 let⟨hs,q⟩:=h
 cases x with
 |non=>
  ext G
  cases y with
  |non=>ext z;show PySem.EqNone.eq_none_none (X4 I q (by simp))
  |bl j=>ext z;show PySem.EqNone.eq_none_bool (X4 I q (by simp))
  |int j=>let⟨t',rfl⟩:=z;show PySem.EqNone.eq_none_int (X4 I q (by simp))
  |str j=>let⟨t',rfl⟩:=z;show PySem.EqNone.eq_none_str (X4 I q (by simp))
  |_=>show absurd (show false=true from hs) Bool.false_ne_true
 |bl i=>
  ext G
  cases y with
  |non=>ext z;show PySem.EqNone.eq_bool_none (X4 I q (by simp))
  |bl j=>ext z;show eq_bool (X4 I q xx2)
  |str j=>let⟨t',rfl⟩:=z;show PySem.EqMixed.eq_bool_str (X4 I q (by simp))
  |_=>show absurd (show false=true from hs) Bool.false_ne_true
 |int i=>
  let⟨t,rfl⟩:=G
  cases y with
  |non=>ext z;show PySem.EqNone.eq_int_none (X4 I q (by simp))
  |int j=>let⟨t',rfl⟩:=z;show eq_int (X4 I q yk5)
  |str j=>let⟨t',rfl⟩:=z;show PySem.EqMixed.eq_int_str (X4 I q (by simp))
  |_=>show absurd (show false=true from hs) Bool.false_ne_true
 |str i=>
  let⟨t,rfl⟩:=G
  cases y with
  |non=>ext z;show PySem.EqNone.eq_str_none (X4 I q (by simp))
  |bl j=>ext z;show PySem.EqMixed.eq_str_bool (X4 I q (by simp))
  |int j=>let⟨t',rfl⟩:=z;show PySem.EqMixed.eq_str_int (X4 I q (by simp))
  |str j=>let⟨t',rfl⟩:=z;show eq_str (X4 I q yk4)
  |_=>show absurd (show false=true from hs) Bool.false_ne_true
 |byt i=>
  let⟨t,rfl⟩:=G
  cases y with
  |byt j=>let⟨t',rfl⟩:=z;show W.eq_bytes (X4 I q xp1)
  |_=>show absurd (show false=true from hs) Bool.false_ne_true
 |_=>ext y <;> show absurd (show false=true from hs) Bool.false_ne_true
theorem ye4:OpR X (compareOp .Lt) (rI0 fun i j=>.bl (decide (i<j))):=opB0 fun _ _ _ _ _ _ _ q=>lt_int q
theorem wz4:OpR X (compareOp .Gt) (rI0 fun i j=>.bl (decide (j<i))):=opB0 fun _ _ _ _ _ _ _ q=>gt_int q
theorem zz8:OpR X (compareOp .GtE) (rI0 fun i j=>.bl (decide (j<=i))):=opB0 fun _ _ _ _ _ _ _ q=>ge_int q
theorem OpR.or {f:Value->Value->Sem Value}{r z:R2}(h:OpR X f r)(h':OpR X f z):OpR X f (fun x y H Q=>r x y H Q\/z x y H Q):=by
 intro pins s σ H x y v u Q I j i q
 rcases q with q|q
 .exact h pins s σ H x y v u Q I j i q
 .exact h' pins s σ H x y v u Q I j i q
theorem u7 (b:Expr){op:CmpOp}(h:op≠ .In:=by decide)(h2:op≠ .NotIn:=by decide):behindInMarks op b=false:=by
 have e1:(op==CmpOp.In)=false:=by ext op <;> first|rfl|show absurd rfl h
 have e2:(op==CmpOp.NotIn)=false:=by ext op <;> first|rfl|show absurd rfl h2
 ext b <;> simp[behindInMarks,e1,e2]
theorem zj7 {op:CmpOp}{r:R2}(z:OpR X (compareOp op) r)(ha:PE X a ta)(G:PE X b tb)(hm:behindInMarks op b=false):PE X (.Compare a [op] [b] pos) (tOp r ta tb):=by
 intro pins s σ H Q I h
 show wpAny_Compare1 (binT ha G I h fun v u s2 x y H2 N j i q=>z pins s2 σ H2 x y v u Q N j i q) hm
noncomputable def xb7 (t:TE):TT:=fun σ H Q=>t σ H fun x H'=>∃ k,x= .bl k/\Q k H'
theorem zj1 {op:CmpOp}{r:R2}(O:OpR X (compareOp op) r)(ha:PE X a ta)(U:PE X b tb)(hm:behindInMarks op b=false):PT X (.Compare a [op] [b] pos) (xb7 (tOp r ta tb)):=by
 intro pins s σ H Q I h
 show wpAny_isTrue_Compare1 (thn (ha pins s σ H _ I h) fun v s1 ⟨x,H1,I1,r1,N⟩=>thn (U pins s1 σ H1 _ I1 N) fun u s2 ⟨y,H2,Z,r2,G⟩=>
  thn (O pins s2 σ H2 x y v u _ Z r1 r2 G) fun c s3 ⟨z,H3,Y,i,k,e,j⟩=>?_) hm
 subst e
 ext i
 show wpAny_truthy_bool ⟨H3,Y,j⟩
noncomputable def TruV (K:W.Frag)(x:V)(H:Hp)(k:Bool):Prop:=
 match x with
 | .non=>k=false
 | .bl b=>k=b
 | .int i=>k=(i != 0)
 | .str y=>y.length<=sizeLine/\k=((y.length:Int) != 0)
 | .byt y=>y.size<=sizeLine/\k=((y.size:Int) != 0)
 | .ref p=>(∃ xs,SqL K H p xs/\k= !xs.isEmpty)\/(∃ xs,SqT K H p xs/\k= !xs.isEmpty)\/∃ kvs,H p=some (.dK kvs)/\k= !kvs.isEmpty
 |_=>False
theorem yw1 {κ:Type}{kvs:List (κ×V)}{vs:List (κ×Value)}(r:KV kvs vs):(!vs.isEmpty)= !kvs.isEmpty:=by
 ext r <;> rfl
theorem zx0 {xs:List V}{its:List Value}(r:Vals xs its):(!its.toArray.isEmpty)= !xs.isEmpty:=by
 ext r <;> simp
theorem zp8:(sizeLine:Nat)<2^63:=by rw[sizeLine_eq];decide
theorem xm6:TruR X (fun x H Q=>∃ k,TruV X.K x H k/\Q k H):=by
 intro pins s σ H x v Q I G h
 let⟨k,e,q⟩:=h
 have Z:=zp8
 have hs:sizeLine=16777216:=sizeLine_eq
 cases x with
 |non=>
  ext G
  have j:k=false:=e
  subst j
  show truthy_none ⟨H,I,q⟩
 |bl b=>
  ext G
  have j:k=b:=e
  subst j
  show wpAny_truthy_bool ⟨H,I,q⟩
 |int i=>
  let⟨t,rfl⟩:=G
  have j:k=(i != 0):=e
  subst j
  show PySem.P.truthy_int ⟨H,I,q⟩
 |str y=>
  let⟨t,rfl⟩:=G
  obtain⟨U,j⟩:y.length<=sizeLine/\k=((y.length:Int) != 0):=e
  subst j
  show PySem.P.truthy_str (by lia) ⟨H,I.tok _,q⟩
 |byt y=>
  let⟨t,rfl⟩:=G
  obtain⟨U,j⟩:y.size<=sizeLine/\k=((y.size:Int) != 0):=e
  subst j
  show W.truthy_bytes (by lia) ⟨H,I.tok _,q⟩
 |ref p=>
  ext G
  have j:(∃ xs,SqL X.K H p xs/\k= !xs.isEmpty)\/(∃ xs,SqT X.K H p xs/\k= !xs.isEmpty)\/∃ kvs,H p=some (.dK kvs)/\k= !kvs.isEmpty:=e
  rcases j with⟨xs,N,j⟩|⟨xs,N,j⟩|⟨kvs,N,j⟩
  .subst j
   let⟨its,r,pl,O⟩:=I.list N
   have z:=r.length
   show wpAny_truthy_list pl.isList (by simp only[size_toArray];lia) ⟨H,I.tok _,by rw[zx0 r];show q⟩
  .subst j
   let⟨its,r,pl,O⟩:=I.tuple N
   have z:=r.length
   show truthy_tuple pl (by simp only[size_toArray];lia) ⟨H,I.tok _,by rw[zx0 r];show q⟩
  .subst j
   obtain⟨O,Y,vs,r,m⟩:kvs.length<=sizeLine/\(p==sysModules)=false/\∃ vs,KV kvs vs/\s.heap.DictOf (zi7 X.prog X.w) p vs:=I.hok p _ N
   have z:kvs.length=vs.length:=Paired.length r
   show wpAny_truthy_dict Y m (by lia) ⟨H,I.tok _,by rw[yw1 r];show q⟩
 |_=>show(show False from e).elim
theorem zd6 (ha:PE X a ta)(z:∀ i,isTrue a X.env i=(do let v ← i;standAt a.pos;holding [v] (truthy v))):
  PT X a (fun σ H Q=>ta σ H fun x H'=>∃ k,TruV X.K x H' k/\Q k H'):=by
 intro pins s σ H Q I h
 show isTrue_plain (thn (ha pins s σ H _ I h) fun v s1 zQ=>by let⟨x,H1,G,r1,j⟩:=zQ;show xm6 pins s1 σ H1 x v Q G r1 j) (z _)
theorem P6 {x:V}{us:List Value}(r:Vals [x] us):∃ u,us=[u]/\RelV x u:=by
 cases r with
 |cons r1 r2=>ext r2;show⟨_,rfl,r1⟩
theorem yh5 {x y:V}{us:List Value}(r:Vals [x,y] us):∃ u i,us=[u,i]/\RelV x u/\RelV y i:=by
 cases r with
 |cons r1 r2=>
  cases r2 with
  |cons z j=>ext j;show⟨_,_,rfl,r1,z⟩
theorem ya1:G7 X (.builtin "abs") (fun xs H Q=>∃ i,xs=[.int i]/\Q (.int (if i<0 then -i else i)) H):=by
 intro pins s σ H xs us Q I r h
 let⟨i,rfl,q⟩:=h
 let⟨u,rfl,t,rfl⟩:=P6 r
 show call_abs_int fun u tk=>⟨.int (if i<0 then -i else i),H,I.tok _,⟨_,rfl⟩,q⟩
theorem yj6 (G:X.calm=true):G7 X (.builtin "max") (fun xs H Q=>∃ i j,xs=[.int i,.int j]/\Q (.int (if j>i then j else i)) H):=by
 intro pins s σ H xs us Q I r h
 let⟨i,j,rfl,q⟩:=h
 let⟨u,N,rfl,⟨t,rfl⟩,⟨t',rfl⟩⟩:=yh5 r
 show max_two_ints (I.ok.hd G) fun h' tk k=>⟨_,H,I.kept k,?_,q⟩
 by_cases z:j>i
 .rw[if_pos z,if_pos z];show⟨_,rfl⟩
 .rw[if_neg z,if_neg z];show⟨_,rfl⟩
theorem yj4 (G:X.calm=true):G7 X (.builtin "min") (fun xs H Q=>∃ i j,xs=[.int i,.int j]/\Q (.int (if j<i then j else i)) H):=by
 intro pins s σ H xs us Q I r h
 let⟨i,j,rfl,q⟩:=h
 let⟨u,N,rfl,⟨t,rfl⟩,⟨t',rfl⟩⟩:=yh5 r
 show min_two_ints (I.ok.hd G) fun h' tk k=>⟨_,H,I.kept k,?_,q⟩
 by_cases z:j<i
 .rw[if_pos z,if_pos z];show⟨_,rfl⟩
 .rw[if_neg z,if_neg z];show⟨_,rfl⟩
theorem zn5:G7 X (.type "int") (fun xs H Q=>(∃ i,xs=[.int i]/\Q (.int i) H)\/∃ k,xs=[.bl k]/\Q (.int (if k then 1 else 0)) H):=by
 intro pins s σ H xs us Q I r h
 rcases h with⟨i,rfl,q⟩|⟨k,rfl,q⟩
 .let⟨u,rfl,t,rfl⟩:=P6 r
  show call_int_int ⟨.int i,H,I,⟨_,rfl⟩,q⟩
 .let⟨u,rfl,r1⟩:=P6 r
  ext r1
  show call_int_bool ⟨.int (if k then 1 else 0),H,I.tok _,⟨_,rfl⟩,q⟩
end
end
section
structure ObjM (h:Heap)(x dx C:Addr)(mA:Str->Option Value):Prop where
 obj:h.get? x=some (W.instObj C dx)
 ns:h.Ns1 dx mA
 ne:dx≠x
theorem yn2 {h:Heap}{dx:Addr}{mA:Str->Option Value}(n:h.Ns1 dx mA):∃ od,h.get? dx=some od/\∀ name,W.lookIn name od=some (mA name):=by
 let⟨o,es,ep,G,hd,I,_,hm⟩:=n
 show⟨o,G,fun name=>?_⟩
 have e:=hm name
 unfold nsFind findBy at e
 rw[<-Array.find?_toList]at e
 unfold W.lookIn
 rw[hd]
 dsimp only
 split
 .rename_i y q
  rw[q]at e
  show congrArg some e
 .rename_i q
  rw[q]at e
  have a:es.toList.any (·.refKey)=false:=by
   rw[any_eq_false]
   intro y j
   let⟨z,t,i⟩:=I y (Array.mem_toList_iff.mp j)
   simp[DictEntry.refKey,i]
  have N:¬ es.toList.any (·.refKey)=true:=by rw[a];show Bool.false_ne_true
  rw[if_neg N]
  show congrArg some e
theorem ObjM.look {h:Heap}{x dx C:Addr}{mA:Str->Option Value}(I:ObjM h x dx C mA):∃ od,W.InstAt h x (W.instObj C dx) C (some od)/\∀ name,W.lookIn name od=some (mA name):=
 let ⟨od,i,j⟩:=yn2 I.ns
 ⟨od,⟨I.obj,rfl,rfl,i⟩,j⟩
section
variable {prog:Program}{w:World}{A:Around}{E:Value->Shared->Prop}{s:Shared}{K:W.Frag}{x dx C f:Addr}{mA:Str->Option Value}{name:Str}{v:Value}
end
section
variable {P:Program}{w:World}{H H':Hp}{h h':Heap}{a C dx:Addr}{fs fs':List (Str×V)}
theorem xq0 (hok:HOk P w H h)(e:H a=some (.ins C dx fs)):∃ mA,ObjM h a dx C mA/\(∀ f,RelO (fs.lookup f) (mA f))/\PySem.Within mA (fs.map (·.1))/\fs.length<=1000/\H dx=some (.own a):=by
 let⟨d,z,ne,ob,mA,n,r,q⟩:=(show ObjOk P w H h a (.ins C dx fs)from hok a _ e)
 show⟨mA,⟨ob,n,ne⟩,r,q,z,d⟩
end
structure Cls (K:W.Frag)(C:Addr):Prop where
 pg:W.plainGet K C Str.empty=true
 hd:W.hasDictIn K C=true
 po:W.plainOver K C=true
 sa:W.findIn K (.ref C) "__setattr__"=some (some (.builtin "object.__setattr__"))
theorem Cls.get {K:W.Frag}{C:Addr}(c:Cls K C)(f:Str):W.plainGet K C f=true:=c.pg
structure Con (K:W.Frag)(C:Addr)(f:Str)(v:V)(u:Value):Prop where
 at_:W.findIn K (.ref C) f=some (some u)
 rel:RelV v u
 get:W.specialIn K u "__get__"=some none
 cp:W.copiedNames.contains f=false
structure Meth (K:W.Frag)(C:Addr)(m:Str)(f:Addr):Prop where
 at_:W.findIn K (.ref C) m=some (some (.ref f))
 fn:W.isFn K (.ref f)=true
 kp:W.keepIn K (.ref f)=true
section
variable {X:Cx}{pins:List (Addr×Obj)}{σ:St}{H:Hp}{s:Shared}{a C dx:Addr}{fs:List (Str×V)}{f:Str}{v:V}{A:Around}{E:Value->Shared->Prop}
end
section
variable {X:Cx}{o e value:Expr}{f:Str}{pos pos' tpos:Pos}{ta tv:TE}
end
section
variable {X:Cx}{pins:List (Addr×Obj)}{σ:St}{H:Hp}{s:Shared}{A:Around}{E:Value->Shared->Prop}{Q:Value->Shared->Prop}{c:Value}{b:Bool}
inductive TyOf (K:W.Frag)(H:Hp):V->Value->Prop where
 |non:TyOf K H .non (.type "NoneType")
 |bl (x:Bool):TyOf K H (.bl x) (.type "bool")
 |int (i:Int):TyOf K H (.int i) (.type "int")
 |str (x:Str):TyOf K H (.str x) (.type "str")
 |flt (x:UInt64):TyOf K H (.flt x) (.type "float")
 |lst {a:Addr} {xs:List V} (e:H a=some (.lst xs)):TyOf K H (.ref a) (.type "list")
 |frz {a:Addr} {o:Obj} {xs:List V} (e:H a=some (.frz o (.lst xs))):TyOf K H (.ref a) (.type "list")
 |tup {a:Addr} {xs:List V} (e:H a=some (.tup xs)):TyOf K H (.ref a) (.type "tuple")
 |dK {a:Addr} {kvs:List (Key×V)} (e:H a=some (.dK kvs)):TyOf K H (.ref a) (.type "dict")
 |dT {a:Addr} {kvs:List (List Key×V)} (e:H a=some (.dT kvs)):TyOf K H (.ref a) (.type "dict")
 |ins {a C dx:Addr} {fs:List (Str×V)} (e:H a=some (.ins C dx fs)) (cl:Cls K C) (ha:W.findIn K (.ref C) "__class__"=some (some (.builtin "object.__class__")))
   (hn:W.specialIn K (.builtin "object.__class__") "__get__"=some (some (.builtin "getset_descriptor.__get__"))) (htk:W.takesIn K (.builtin "object.__class__")=some true)
   (hm:W.mroIn K C (.type "object")=some true):TyOf K H (.ref a) (.ref C)
theorem N7 {x:V}{u t:Value}(I:Inv X pins σ H s)(j:RelV x u)(ty:TyOf X.K H x t)(e:W.kitOne X.K t c=some b)(h:∀ tk,Q (.bool b) { s with toks:=tk }):
  wpAny (model X.prog X.w) A (call (.builtin "isinstance") [u,c]) Q E s:=by
 cases ty with
 |non=>cases (show u=Value.none from j);show W.kia_one W.kitx_none I.kIn True.intro e (fun z=>nomatch z) h
 |bl y=>cases (show u=Value.bool y from j);show W.kia_one W.kitx_bool I.kIn True.intro e (fun z=>nomatch z) h
 |int i=>let⟨t,q⟩:=(show ∃ t,u=Value.int i t from j);ext q;show W.kia_one W.kitx_int I.kIn True.intro e (fun z=>nomatch z) h
 |str y=>let⟨t,q⟩:=(show ∃ t,u=Value.str y t from j);ext q;show W.kia_one W.kitx_str I.kIn True.intro e (fun z=>nomatch z) h
 |flt y=>let⟨t,q⟩:=(show ∃ t,u=Value.float y t from j);ext q;show W.kia_one W.kitx_float I.kIn True.intro e (fun z=>nomatch z) h
 |@lst a xs ea=>
  cases (show u=Value.ref a from j)
  let⟨_,_,n,_,h1⟩:=(show ObjOk X.prog X.w H s.heap a (.lst xs)from I.hok a _ ea)
  show W.kia_one W.kitx_list I.kIn ⟨_,h1,rfl⟩ e (fun z=>nomatch z) h
 |@frz a ob xs ea=>
  cases (show u=Value.ref a from j)
  let⟨_,_,_,n,_,h1⟩:=(show ObjOk X.prog X.w H s.heap a (.frz ob (.lst xs))from I.hok a _ ea)
  show W.kia_one W.kitx_list I.kIn ⟨_,h1,rfl⟩ e (fun z=>nomatch z) h
 |@tup a xs ea=>
  cases (show u=Value.ref a from j)
  let⟨_,_,_,p⟩:=(show ObjOk X.prog X.w H s.heap a (.tup xs)from I.hok a _ ea)
  let⟨o,h1,h2,_⟩:=p
  show W.kia_one W.kitx_tuple I.kIn ⟨o,h1,h2⟩ e (fun z=>nomatch z) h
 |@dK a kvs ea=>
  cases (show u=Value.ref a from j)
  let⟨_,_,vs,_,p⟩:=(show ObjOk X.prog X.w H s.heap a (.dK kvs)from I.hok a _ ea)
  let⟨o,es,ep,h1,h2,_⟩:=p
  show W.kia_one W.kitx_dict I.kIn ⟨o,h1,h2.1⟩ e (fun z=>nomatch z) h
 |@dT a kvs ea=>
  cases (show u=Value.ref a from j)
  let⟨_,_,xs,_,o,es,ep,h1,h2,_⟩:=(show ObjOk X.prog X.w H s.heap a (.dT kvs)from I.hok a _ ea)
  show W.kia_one W.kitx_dict I.kIn ⟨o,h1,h2.1⟩ e (fun z=>nomatch z) h
 |@ins a C dx fs ea cl ha hn htk hm=>
  cases (show u=Value.ref a from j)
  let⟨mA,O,_⟩:=xq0 I.hok ea
  let⟨od,J,_⟩:=O.look
  show W.kia_one (W.kitx_own (cl.get _) cl.hd ha hn htk hm) I.kIn J e (fun z=>nomatch z) h
end
end
section
structure Room (k:Nat)(A:Around):Prop where
 hd:A.handled=none
 dp:A.depth+3*k+5<recursionLimit
 un:A.units+16*k+200<cLine
theorem Room.mono {j k:Nat}{A:Around}(r:Room k A)(h:j<=k):Room j A:=⟨r.hd,by have:=r.dp;lia,by have:=r.un;lia⟩
theorem Room.deeper {k:Nat}{A:Around}(r:Room (k+1) A)(env:Env):Room k (A.deeper env):=
 ⟨r.hd,by have:=r.dp;show A.depth+1+3*k+5<_;lia,by have:=r.un;show A.units+3+16*k+200<_;lia⟩
theorem Room.in1 {k:Nat}{A:Around}(r:Room (k+1) A):Room k A.in1:=
 ⟨r.hd,by have:=r.dp;show A.depth+3*k+5<_;lia,by have:=r.un;show A.units+1+16*k+200<_;lia⟩
theorem Room.depth {k:Nat}{A:Around}(r:Room k A):A.depth<recursionLimit:=by have:=r.dp;lia
theorem Room.units {k:Nat}{A:Around}(r:Room k A):A.units+64<cLine:=by have:=r.un;lia
noncomputable def tNil:TA:=fun _ H Q=>Q [] H
noncomputable def xk2 (ta:TE)(tr:TA):TA:=fun σ H Q=>ta σ H fun x H1=>tr σ H1 fun xs H2=>Q (x::xs) H2
section
variable {X:Cx}{e:Expr}{es:List Expr}{te:TE}{t:TA}{pos:Pos}
theorem pa_nil:PA X [] tNil:=fun _ _ _ _ H Q I h=>Calls.spliced_nil ⟨[],H,I,.nil,h⟩
theorem j4 (ha:PE X e te)(hr:PA X es t)(hs:starEach (e::es) X.env=(false,eval e X.env)::starEach es X.env:=by rfl):PA X (e::es) (xk2 te t):=by
 intro pos pins s σ H Q I h
 rw[hs]
 show wpAny _ _ (spliced ((false,eval e X.env)::backTo pos (starEach es X.env))) _ _ s
 show Calls.spliced_cons (thn (ha pins s σ H _ I h) fun u s1 i=>?_)
 let⟨x,H1,N,r1,z⟩:=i
 show thn (hr pos pins s1 σ H1 _ N z) fun us s2 zQ=>by let⟨xs,H2,G,r2,j⟩:=zQ;show ⟨x::xs,H2,G,.cons r1 r2,j⟩
noncomputable def tTup (t:TA):TE:=fun σ H Q=>t σ H fun xs H1=>xs.length<=sizeLine/\∀ p,H1 p=none->Q (.ref p) (upd H1 p (.tup xs))
noncomputable def tLst (t:TA):TE:=fun σ H Q=>t σ H fun xs H1=>xs.length<=sizeLine/\∀ p,H1 p=none->Q (.ref p) (upd H1 p (.lst xs))
theorem xi2 {j}(h:PA X es t):PE X (.Tuple es j pos) (tTup t):=by
 intro pins s σ H Q I G
 show wpAny_Tuple_spliced (thn (h pos pins s σ H _ I G) fun us s1 ⟨xs,H1,i,r,z,q⟩=>⟨by rw[<-r.length];show z,?_⟩)
 have N:H1 s1.heap.objs.size=none:=i.hok.fresh (Nat.le_refl _)
 show⟨.ref s1.heap.objs.size,upd H1 s1.heap.objs.size (.tup xs),i.laid (t':=s1.toks) (fun b u e=>Heap.get?_push_of_some _ e) (Nat.le_refl _) ?_,rfl,q _ N⟩
 show⟨z,us,r,⟨_,Heap.get?_push_size _ rfl,rfl,_,rfl⟩⟩
theorem ys5 (h:PA X es t):PE X (.List es pos) (tLst t):=by
 intro pins s σ H Q I j
 show wpAny_List_spliced (thn (h pos pins s σ H _ I j) fun us s1 ⟨xs,H1,i,r,z,q⟩=>⟨by rw[<-r.length];show z,?_⟩)
 have G:H1 s1.heap.objs.size=none:=i.hok.fresh (Nat.le_refl _)
 show⟨.ref s1.heap.objs.size,upd H1 s1.heap.objs.size (.lst xs),i.laid (t':=s1.toks) (fun b u e=>Heap.get?_push_of_some _ e) (Nat.le_refl _) ?_,rfl,q _ G⟩
 show⟨z,us,0,r,Heap.get?_push_size _ rfl⟩
end
noncomputable abbrev Sp:=List V->Hp->VK->XK->Prop
noncomputable abbrev CXT:=List Env->Hp->Shared->XK->Value->Shared->Prop
structure Env0 (P:Program)(w:World)(K:W.Frag)(mg:Str->Option Value)(base:Heap)(A:Around)(outer:List Env)(s:Shared)(H:Hp):Prop where
 frames:A.frames=some outer
 mod:Mod K mg base
 bs:∀ b o,base.get? b=some o->s.heap.get? b=some o/\H b=none
 bsz:base.objs.size<=s.heap.objs.size
 funs:s.heap.FunFrames base outer
 frf:∀ b∈frs outer,H b=none
 hok:HOk P w H s.heap
 bare:AllBare s.gens
noncomputable def CE (outer:List Env)(P:Program)(w:World)(H:Hp)(s:Shared)(Q:VK)(u:Value)(s':Shared):Prop:=
 ∃ v H',s'.os=s.os/\AllBare s'.gens/\Un (frs outer) [] H H' s.heap s'.heap/\HOk P w H' s'.heap/\RelV v u/\Q v H'
noncomputable def CR (CX:CXT)(outer:List Env)(P:Program)(w:World)(H:Hp)(s:Shared)(Q:VK)(E:XK)(r:Result)(s':Shared):Prop:=
 match r with
 | .ok (.ret u)=>CE outer P w H s Q u s'
 | .ok _=>False
 | .error e=>CX outer H s E e s'
structure FnOk (P:Program)(w:World)(K:W.Frag)(mg:Str->Option Value)(base:Heap)(CX:CXT)(k:Nat)(f:Addr)(fd:FuncData)(ps:List Str)(sp:Sp):Prop where
 len:∀ vs H Q E,sp vs H Q E->vs.length=ps.length
 run:∀(A:Around)(outer:List Env)(s:Shared)(H:Hp)(args:Args)(us:List Value)(vs:List V)(Q:VK)(E:XK),Room k A->Env0 P w K mg base A outer s H->BindsTo s fd args (ps.zip us)->Vals vs us->sp vs H Q E->
  codeAny (model P w) A (.call (.ref f) args) (CR CX outer P w H s Q E) s
theorem FnOk.mono {P:Program}{w:World}{K:W.Frag}{mg:Str->Option Value}{base:Heap}{CX:CXT}{j k:Nat}{f:Addr}{fd:FuncData}{ps:List Str}{sp:Sp}(F:FnOk P w K mg base CX j f fd ps sp)(h:j<=k):
  FnOk P w K mg base CX k f fd ps sp:=⟨F.len,fun A outer s H args us vs Q E hr=>F.run A outer s H args us vs Q E (hr.mono h)⟩
theorem FnOk.imp {P:Program}{w:World}{K:W.Frag}{mg:Str->Option Value}{base:Heap}{CX:CXT}{k:Nat}{f:Addr}{fd:FuncData}{ps:List Str}{sp i:Sp}(F:FnOk P w K mg base CX k f fd ps sp)
  (h:∀ vs H Q E,i vs H Q E->sp vs H Q E):FnOk P w K mg base CX k f fd ps i:=
 ⟨fun vs H Q E q=>F.len vs H Q E (h _ _ _ _ q),fun A outer s H args us vs Q E hr z G j hs=>F.run A outer s H args us vs Q E hr z G j (h _ _ _ _ hs)⟩
section
variable {X:Cx}{pins:List (Addr×Obj)}{σ:St}{H:Hp}{s s':Shared}
theorem Inv.env0 (I:Inv X pins σ H s):Env0 X.prog X.w X.K X.mg X.base X.A X.stack s H:=
 ⟨I.ok.frames,I.ok.mod,I.bs,Nat.le_trans I.ok.bsz I.sz,I.stack,I.stkFree,I.hok,I.bare⟩
theorem Inv.after {Q:VK}{u:Value}(I:Inv X pins σ H s)(h:CE X.stack X.prog X.w H s Q u s'):EP X pins σ Q u s':=by
 let⟨v,H',os,bare,un,hok,r,q⟩:=h
 let⟨hh,g,d,t,i⟩:=s'
 obtain rfl:i=s.os:=os
 show⟨v,H',I.call (h':=hh) (g':=g) (d':=d) (t':=t) (ch:=[]) un hok bare (fun b z=>absurd z (by simp)),r,q⟩
end
noncomputable def zk3 (sp:Sp)(dvs:List V)(E:XK)(t:TA):TE:=fun σ H Q=>t σ H fun vs H1=>sp (vs++dvs) H1 Q E
noncomputable def Binds (K:W.Frag)(fd:FuncData)(ps:List Str)(ds:List Value):Prop:=
 ∀(s:Shared)(us:List Value),K.In s.heap->(us++ds).length=ps.length->BindsTo s fd ⟨us,[]⟩ (ps.zip (us++ds))
theorem Binds.all {K:W.Frag}{fd:FuncData}{ps:List Str}(h:∀ us:List Value,us.length=ps.length->bindArgs fd ⟨us,[]⟩=pure (ps.zip us)):Binds K fd ps []:=fun s us _ i=>by
 rw[append_nil]at i ⊢
 show .of_eq (h us i)
noncomputable def yi8 (CX:CXT)(X:Cx)(E:XK):Prop:=∀(pins:List (Addr×Obj))(σ:St)(H:Hp)(s:Shared)(e:Value)(s':Shared),Inv X pins σ H s->CX X.stack H s E e s'->X.xe e s'
section
variable {X:Cx}{CX:CXT}{k:Nat}{f C:Addr}{fd:FuncData}{ps:List Str}{sp:Sp}{dvs:List V}{ds:List Value}{E:XK}{x m:Str}{p pos apos:Pos}{e o:Expr}{es:List Expr}{ta:TE}{t:TA}
theorem xj0 {pins:List (Addr×Obj)}{σ:St}{H:Hp}{s:Shared}{Q:VK}{us:List Value}{vs:List V}(F:FnOk X.prog X.w X.K X.mg X.base CX k f fd ps sp)(hr:Room k X.A)(G:Binds X.K fd ps ds)(hd:Vals dvs ds)(j:yi8 CX X E)
  (I:Inv X pins σ H s) (r:Vals vs us) (h:sp (vs++dvs) H Q E):wpAny (model X.prog X.w) X.A (call (.ref f) us) (EP X pins σ Q) X.xe s:=by
 have r2:Vals (vs++dvs) (us++ds):=r.append hd
 have z:(us++ds).length=ps.length:=by rw[<-r2.length];show F.len _ _ _ _ h
 show wpAny_call (codeAny_mono (F.run X.A X.stack s H ⟨us,[]⟩ (us++ds) (vs++dvs) Q E hr I.env0 (G s us I.kIn z) r2 h) fun r s' i=>?_)
 cases r with
 |error e=>show j pins σ H s e s' I i
 |ok fl=>
  cases fl with
  |ret u=>show I.after i
  |next=>show False.elim i
  |brk=>show False.elim i
  |cont=>show False.elim i
theorem xu7 (F:FnOk X.prog X.w X.K X.mg X.base CX k f fd ps sp)(hr:Room k X.A)(O:Gl X x)(hm:X.mg x=some (.ref f))(N:W.keepIn X.K (.ref f)=true)(Y:Binds X.K fd ps ds)(hd:Vals dvs ds)(G:yi8 CX X E)
  (ha:PA X (e::es) t) (j:(x==("__debug__":Str))=false:=by decide) (U:starEach (e::es) X.env=(false,eval e X.env)::starEach es X.env:=by rfl) (i:(backTo pos (starEach es X.env)).any (·.1)=false:=by rfl):
  PE X (.Call (.Name x p) (e::es) [] pos) (zk3 sp dvs E t):=by
 intro pins s σ H Q I h
 show wpAny_Call_Name_kw (yn5 I O hm ?_ j)
 show W.callWith_K (h₀:=X.base) I.ok.mod.kin N (thn (ha pos pins s σ H _ I h) fun us s1 ⟨vs,H1,z,r,q⟩=>⟨z.kIn,?_⟩) U i
 show xj0 F hr Y hd G z r q
structure Mk (K:W.Frag)(C f:Addr):Prop where
 makes:W.makesIn K C=true
 init:W.findIn K (.ref C) "__init__"=some (some (.ref f))
 fn:W.isFn K (.ref f)=true
 kp:W.keepIn K (.ref C)=true
end
noncomputable def PK (X:Cx)(kws:List Keyword)(t:TA):Prop:=
 ∀(pos:Pos)(pins:List (Addr×Obj))(s:Shared)(σ:St)(H:Hp)(Q:List V->Hp->Prop),Inv X pins σ H s->t σ H Q->wpAny (model X.prog X.w) X.A (evalAll ((backToKw pos (keywordEach kws X.env)).map (·.2))) (AP X pins σ Q) X.xe s
section
variable {X:Cx}{CX:CXT}{k:Nat}{f C:Addr}{fd:FuncData}{ps ks:List Str}{sp:Sp}{E:XK}{x m:Str}{p pos apos kpos:Pos}{e o:Expr}{es:List Expr}{kws:List Keyword}{te ta:TE}{t tk:TA}{nm:Option Str}
theorem zc0:PK X [] tNil:=fun _ _ _ _ H Q I h=>wpAny_evalAll_nil ⟨[],H,I,.nil,h⟩
theorem C0 (ha:PE X e te)(hr:PK X kws t):PK X (⟨nm,e,kpos⟩::kws) (xk2 te t):=by
 intro pos pins s σ H Q I h
 show wpAny _ _ (evalAll ((do let v ← eval e X.env;standAt pos;pure v)::(backToKw pos (keywordEach kws X.env)).map (·.2))) _ _ s
 show wpAny_evalAll_cons (wpAny_bind (thn (ha pins s σ H _ I h) fun u s1 ⟨x,H1,G,r1,j⟩=>wpAny_bind (wpAny_standAt (wpAny_pure ?_))))
 show thn (hr pos pins s1 σ H1 _ G j) fun us s2 ⟨xs,H2,z,r2,i⟩=>⟨x::xs,H2,z,.cons r1 r2,i⟩
structure KBinds (K:W.Frag)(fd:FuncData)(ps ks:List Str)(g:List Value->List Value->List Value)(gV:List V->List V->List V):Prop where
 to:∀(s:Shared)(us ws:List Value),K.In s.heap->(g us ws).length=ps.length->BindsTo s fd ⟨us,ks.zip ws⟩ (ps.zip (g us ws))
 rel:∀{vs:List V}{us:List Value}{zs:List V}{ws:List Value},Vals vs us->Vals zs ws->Vals (gV vs zs) (g us ws)
variable {g:List Value->List Value->List Value}{gV:List V->List V->List V}
end
structure FnScope (N P:List Str)(sc:Scope):Prop where
 kind:sc.kind= .function
 co:sc.isCoroutine=false
 gen:sc.isGenerator=false
 nd:N.Nodup
 pre:N.take P.length=P
 par:∀ x∈P,sc.names.lookup x=some .local\/sc.names.lookup x=some .cell
 nofree:∀ y∈sc.names,y.2≠ .free
theorem zn8 {kindOf:Str->Option NameKind}{x:Str}:∀{binds:List (Str×Value)}{m:Str->Option Value},(∀ v,(x,v)∉binds)->bindL kindOf binds m x=m x
 |[],_,_=>rfl
 | (n,v)::r,m,h=>by
  unfold bindL
  rw[zn8 fun w hw=>h w (mem_cons_of_mem _ hw)]
  split
  .have:x≠n:=by rintro rfl;show h v mem_cons_self
   simp[this]
  .rfl
theorem zm0 {kindOf:Str->Option NameKind}{x:Str}:∀{binds:List (Str×Value)}{m:Str->Option Value},(∀ v,(x,v)∉binds)->bindC kindOf binds m x=m x
 |[],_,_=>rfl
 | (n,v)::r,m,h=>by
  unfold bindC
  rw[zm0 fun w hw=>h w (mem_cons_of_mem _ hw)]
  split
  .rfl
  .have:x≠n:=by rintro rfl;show h v mem_cons_self
   simp[this]
theorem zn9 {kindOf:Str->Option NameKind}{x:Str}{v:Value}:∀{P:List Str}{vs:List Value}{i:Nat}{m:Str->Option Value},P.Nodup->P[i]? =some x->vs[i]? =some v->kindOf x=some .local->
  bindL kindOf (P.zip vs) m x=some v
 |[],_,_,_,_,h,_,_=>by simp at h
 |_::_,[],_,_,_,_,h,_=>by simp at h
 |p::P,w::vs,0,m,nd,h1,h2,hk=>by
  simp at h1 h2;subst h1;subst h2
  show bindL kindOf ((p,w)::P.zip vs) m p=_
  unfold bindL
  rw[zn8 fun v j=>(List.nodup_cons.mp nd).1 (of_mem_zip j).1,if_pos hk]
  simp
 |p::P,w::vs,i+1,m,nd,h1,h2,hk=>by
  show bindL kindOf ((p,w)::P.zip vs) m x=_
  unfold bindL
  show zn9 (i:=i) (List.nodup_cons.mp nd).2 (by simpa using h1) (by simpa using h2) hk
theorem zm1 {kindOf:Str->Option NameKind}{x:Str}{v:Value}:∀{P:List Str}{vs:List Value}{i:Nat}{m:Str->Option Value},P.Nodup->P[i]? =some x->vs[i]? =some v->kindOf x≠some .local->
  bindC kindOf (P.zip vs) m x=some v
 |[],_,_,_,_,h,_,_=>by simp at h
 |_::_,[],_,_,_,_,h,_=>by simp at h
 |p::P,w::vs,0,m,nd,h1,h2,hk=>by
  simp at h1 h2;subst h1;subst h2
  show bindC kindOf ((p,w)::P.zip vs) m p=_
  unfold bindC
  rw[zm0 fun v j=>(List.nodup_cons.mp nd).1 (of_mem_zip j).1,if_neg hk]
  simp
 |p::P,w::vs,i+1,m,nd,h1,h2,hk=>by
  show bindC kindOf ((p,w)::P.zip vs) m x=_
  unfold bindC
  show zm1 (i:=i) (List.nodup_cons.mp nd).2 (by simpa using h1) (by simpa using h2) hk
noncomputable def V3 (N:List Str)(vs:List V):St:=vs.map some++List.replicate (N.length-vs.length) none
noncomputable def cxOf (CX:CXT)(P:Program)(w:World)(K:W.Frag)(mg:Str->Option Value)(base:Heap)(N:List Str)(qual:Str)(scope:Scope)(f:Addr)(cd:Value)(A:Around)(outer:List Env)(s:Shared)(H:Hp)(E:XK):Cx where
 prog:=P
 w:=w
 K:=K
 mg:=mg
 base:=base
 A:=A.deeper (envOfC qual scope s.heap.objs.size f cd)
 N:=N
 s₀:=s
 H₀:=H
 env:=envOfC qual scope s.heap.objs.size f cd
 outer:=outer
 stack:=envOfC qual scope s.heap.objs.size f cd::outer
 ex:=[]
 calm:=true
 fn:=fun _=>true
 pn:=[]
 xe:=fun e s'=>wpAny (model P w) (A.deeper (envOfC qual scope s.heap.objs.size f cd)) (leaving (envOfC qual scope s.heap.objs.size f cd) e) (fun _ s''=>CX outer H s E e s'') (fun e' s''=>CX outer H s E e' s'') s'
theorem yz4 {sc:Scope}{n:Nat}{x:Str}(h:sc.names.lookup x=some .cell):∃ c,(cellsFrom n sc.names []).lookup x=some c:=by
 have q:=W.cellsFrom_some sc.names n [] (.inl h)
 show Option.isSome_iff_exists.mp q
theorem ym0 {CX:CXT}{P:Program}{w:World}{K:W.Frag}{mg:Str->Option Value}{base:Heap}{N ps:List Str}{qual:Str}{scope:Scope}{f:Addr}{U:Value}{A:Around}{outer:List Env}{s s1:Shared}{H:Hp}{E:XK}{us:List Value}{vs:List V}
  (S:FnScope N ps scope) (hd:A.handled=none) (j:Env0 P w K mg base A outer s H) (hl:vs.length=ps.length) (r:Vals vs us)
  (x:InCallC s s.heap.objs.size (bindL (envOfC qual scope s.heap.objs.size f U).kindOf (ps.zip us) fun _=>none) (cellsFrom (s.heap.objs.size+1) scope.names []) (bindC (envOfC qual scope s.heap.objs.size f U).kindOf (ps.zip us) fun _=>none) s1):
  Inv (cxOf CX P w K mg base N qual scope f U A outer s H E) [] (V3 N vs) H s1:=by
 have a1:ps.length<=N.length:=by have:=congrArg List.length S.pre;rw[length_take]at this;lia
 let⟨h1,tk,rfl,Z⟩:=x.done
 have G:∀ b:Addr,b∉(cxOf CX P w K mg base N qual scope f U A outer s H E).ex:=fun b z=>absurd (show b∈([]:List Addr)from z) (by simp)
 show⟨⟨j.mod,S.kind,rfl,rfl,Nat.le_refl _,fun y z c h1 h2=>?_,fun y I=>?_,fun y c _ h=>?_,fun _=>hd,Around.frames_deeper j.frames,.inr ⟨rfl,rfl⟩,fun b z=>absurd z (G b),j.bs,j.bsz,fun b _ _=>G b,fun b z=>absurd z (G b),j.funs,j.frf⟩,
  rfl,j.bare,Un.kept Z,⟨_,x.toInCall.ns,fun i y v h1 h2 h3=>?_⟩,fun y c h=>⟨_,x.cell y c h⟩,j.hok.fresh (Nat.le_refl _),fun y c h=>?_,fun p hp=>absurd (show p∈([]:List (Addr×Obj))from hp) (by simp),j.hok.kept Z,?_⟩
 .exact name_of_addr x.apart (PySem.mem_of_lookup h1) (PySem.mem_of_lookup h2)
 .have I:scope.names.lookup y=some .cell\/scope.names.lookup y=some .free:=I
  rcases I with I|I
  .exact yz4 I
  .exact absurd rfl (S.nofree _ (PySem.mem_of_lookup I))
 .exact Nat.le_of_lt (x.above y c (PySem.mem_of_lookup h))
 .have hi:i<vs.length:=by
   unfold V3 at h2
   by_cases hi:i<vs.length
   .exact hi
   .rw[getElem?_append_right (by simpa using hi)]at h2
    rw[getElem?_replicate]at h2
    split at h2 <;> ext h2
  have ha:vs[i]? =some v:=by
   unfold V3 at h2
   rw[getElem?_append_left (by simpa using hi),getElem?_map]at h2
   cases e:vs[i]? with
   |none=>rw[e]at h2;ext h2
   |some a=>rw[e]at h2;ext h2;rfl
  let⟨u,Y,rv⟩:=r.get ha
  have hp:ps[i]? =some y:=by
   rw[<-S.pre,getElem?_take_of_lt (by lia)];show h1
  have O:ps.Nodup:=by rw[<-S.pre];show S.nd.sublist (take_sublist _ _)
  show⟨u,rv,?_⟩
  rcases S.par y (mem_of_getElem? hp)with k|k
  .exact .inl ⟨k,zn9 O hp Y k⟩
  .let⟨c,e⟩:=yz4 (n:=s.heap.objs.size+1) k
   show .inr ⟨.inl k,c,e,?_⟩
   have q:=x.cell y c e
   rw[zm1 O hp Y (by show scope.names.lookup y≠_;rw[k];decide)]at q
   show q
 .exact j.hok.fresh (Nat.le_of_lt (x.above y c (PySem.mem_of_lookup h)))
 .unfold V3
  show _=N.length
  rw[length_append,length_map,length_replicate]
  lia
theorem wx5 {CX:CXT}{P:Program}{w:World}{K:W.Frag}{mg:Str->Option Value}{base:Heap}{k:Nat}{f:Addr}{name qual:Str}{params:Arguments}{body:List Stmt}{scope:Scope}{dV kV doc pm cdv ct oc:Value}{an od:Option Addr}
  {osl:Array (Option Value)} {N ps:List Str} {sp:Sp} (lk:K.lookup f=some ⟨oc,od,.func (W.fnOf name qual params body scope dV kV doc pm an cdv ct),osl⟩) (Z:W.codeIn K cdv qual=true) (S:FnScope N ps scope)
  (len:∀ vs H Q E,sp vs H Q E->vs.length=ps.length)
  (z:∀(A:Around)(outer:List Env)(s:Shared)(H:Hp)(vs:List V)(Q:VK)(E:XK),Room k (A.deeper (envOfC qual scope s.heap.objs.size f cdv))->sp vs H Q E->
   ∃ t,PSs (cxOf CX P w K mg base N qual scope f cdv A outer s H E) body t/\t { nx:=fun _ H'=>Q .non H',rt:=Q } (V3 N vs) H):
  FnOk P w K mg base CX (k+1) f (W.fnOf name qual params body scope dV kV doc pm an cdv ct) ps sp:=by
 show⟨len,fun A outer s H args us vs Q E hr O hb r G=>?_⟩
 have hl:=len _ _ _ _ G
 have KX:K.In s.heap:=O.mod.kin.keeps fun b o e=>(O.bs b o e).1
 have Y:s.heap.NoLimit:=O.mod.nolimit.keeps fun b o e=>(O.bs b o e).1
 have j:∀ y∈ps.zip us,scope.names.lookup y.1=some .local\/(scope.names.lookup y.1=some .cell/\((cellsFrom (s.heap.objs.size+1) scope.names []).lookup y.1).isSome=true):=fun⟨n,v⟩ hy=>by
  rcases S.par n (of_mem_zip hy).1 with q|q
  .exact .inl q
  .exact .inr ⟨q,W.cellsFrom_some _ _ _ (.inl q)⟩
 show codeAny_call_function hr.depth (KX _ _ lk) rfl S.co S.gen rfl (W.codeRec_of KX Z) (hb _ _ _ _ ?_)
 show wpAny_newFunctionEnv_cells S.kind j fun env he s1 x=>?_
 subst he
 show⟨Y.keeps x.toInCall.keep,codeAny_func ?_⟩
 let⟨t,ht,hq⟩:=z A outer s H vs Q E (hr.deeper _) G
 have I:Inv (cxOf CX P w K mg base N qual scope f cdv A outer s H E) [] (V3 N vs) H s1:=ym0 S hr.hd O hl r x
 show wpAny_mono (ht [] s1 (V3 N vs) H _ I hq) (fun fl s' hs=>?_) fun e s' hs=>hs
 have fin:∀{i:St}{H':Hp}{v:V}{u:Value},Inv (cxOf CX P w K mg base N qual scope f cdv A outer s H E) [] i H' s'->RelV v u->Q v H'->CE outer P w H s Q u s':=
  fun{i H' v u} J U q=>⟨v,H',J.os,J.bare,J.base,J.hok,U,q⟩
 cases fl with
 |ret u=>
  let⟨v,i,H',J,U,q⟩:=hs
  show fin J U q
 |next=>
  let⟨i,H',J,q⟩:=hs
  show fin (v:=V.non) (u:=Value.none) J rfl q
 |brk=>
  let⟨_,_,_,q⟩:=hs
  show False.elim q
 |cont=>
  let⟨_,_,_,q⟩:=hs
  show False.elim q
end
section
section
variable {X:Cx}{x:Str}{p pos:Pos}{e:Expr}{es:List Expr}{t:TA}{id T:String}{r:List V->Hp->VK->Prop}
noncomputable def tCB (r:List V->Hp->VK->Prop)(t:TA):TE:=fun σ H Q=>t σ H fun vs H1=>r vs H1 Q
theorem T9 (U:G7 X (.builtin id) r)(N:Gl X x)(hm:X.mg x=none)(G:bootBuiltins x=some (.builtin id))(ha:PA X (e::es) t)(hn:x≠"__name__":=by decide)(j:(x==("__debug__":Str))=false:=by decide)
  (O:starEach (e::es) X.env=(false,eval e X.env)::starEach es X.env:=by rfl) (i:(backTo pos (starEach es X.env)).any (·.1)=false:=by rfl):PE X (.Call (.Name x p) (e::es) [] pos) (tCB r t):=by
 intro pins s σ H Q I h
 show wpAny_Call_Name_kw (U7 I N hm G ?_ hn j)
 show PyProof.Rows.callWith_builtin1 (thn (ha pos pins s σ H _ I h) fun us s1 zQ=>by let⟨vs,H1,Y,r1,z⟩:=zQ;show U pins s1 σ H1 vs us Q Y r1 z) O i
theorem N3 (U:G7 X (.type T) r)(N:Gl X x)(hm:X.mg x=none)(G:bootBuiltins x=some (.type T))(ha:PA X (e::es) t)(hn:x≠"__name__":=by decide)(j:(x==("__debug__":Str))=false:=by decide)
  (O:starEach (e::es) X.env=(false,eval e X.env)::starEach es X.env:=by rfl) (i:(backTo pos (starEach es X.env)).any (·.1)=false:=by rfl):PE X (.Call (.Name x p) (e::es) [] pos) (tCB r t):=by
 intro pins s σ H Q I h
 show wpAny_Call_Name_kw (U7 I N hm G ?_ hn j)
 show PyProof.Rows.callWith_type1 (thn (ha pos pins s σ H _ I h) fun us s1 zQ=>by let⟨vs,H1,Y,r1,z⟩:=zQ;show U pins s1 σ H1 vs us Q Y r1 z) O i
end
end
end L2
namespace HT
open PySem PyProof.Rows
theorem rcLt_int (A:Around)(s:Shared)(a:Int)(t:Tok)(c:Int)(u:Tok)(prog:Program)(w:World)(E:Value->Shared->Prop)(Q:Value->Shared->Prop)(h:Q (.bool (decide (a<c))) s):
  wpAny (model prog w) A (richCompare .Lt (.int a t) (.int c u)) Q E s:=
 (PyProof.Rows.lt_int h:wpAny (model prog w) A (compareOp .Lt (.int a t) (.int c u)) Q E s)
section
open PySem.SeqAt
open PySem.AutoSeq1 (wpAny_loadPart')
open PySem.MeetsSeq PySem.MeetsSeq2 PySem.MeetsSeq3
end
section
variable {prog:Program}{w:World}{A:Around}{E:Value->Shared->Prop}{s:Shared}
noncomputable def sIx (n d:Nat):Option Int->Nat
 |none=>d
 |some v=>if v<0 then (v+(n:Int)).toNat else min v.toNat n
theorem sIx_none (n d:Nat):sIx n d none=d:=rfl
theorem sIx_nat (n d k:Nat):sIx n d (some (k:Int))=min k n:=by
 show (if (k:Int)<0 then ((k:Int)+(n:Int)).toNat else min (k:Int).toNat n)=min k n
 rw[if_neg (by lia),Int.toNat_natCast]
end
end HT
namespace L2
open List
open PySem PySem.Spec PyProof.Rows
section
noncomputable abbrev TO:=St->Hp->(Option Int->Hp->Prop)->Prop
noncomputable def PO (X:Cx)(e:Option Expr)(t:TO):Prop:=
 ∀(pins:List (Addr×Obj))(s:Shared)(σ:St)(H:Hp)(Q:Option Int->Hp->Prop),Inv X pins σ H s->t σ H Q->
  wpAny (model X.prog X.w) X.A (evalPart e X.env) (fun u s'=>∃ o H',Inv X pins σ H' s'/\IsPart u o/\Q o H') X.xe s
noncomputable def xw3:TO:=fun _ H Q=>Q none H
noncomputable def xb8 (t:TE):TO:=fun σ H Q=>t σ H fun x H1=>∃ i,x= .int i/\Q (some i) H1
section
variable {X:Cx}{e:Expr}{te:TE}{lo hi:Option Expr}{tl th:TO}{pos p2:Pos}
theorem xu3:PO X none xw3:=by
 intro pins s σ H Q I h
 rw[evalPart_none]
 show wpAny_pure ⟨none,H,I,.none,h⟩
theorem xu2 (h:PE X e te):PO X (some e) (xb8 te):=by
 intro pins s σ H Q I hw
 rw[evalPart_some]
 show thn (h pins s σ H _ I hw) fun u s1 j=>?_
 let⟨x,H1,G,r1,z⟩:=j
 let⟨i,rfl,q⟩:=z
 let⟨t,rfl⟩:=r1
 show⟨some i,H1,G,.int i t,q⟩
noncomputable def SlR (X:Cx)(r:V->Option Int->Option Int->Hp->VK->Prop):Prop:=
 ∀(pins:List (Addr×Obj))(s:Shared)(σ:St)(H:Hp)(x:V)(v vl vu:Value)(lo hi:Option Int)(sl:Addr)(Q:VK),Inv X pins σ H s->RelV x v->s.heap.IsSliceOf sl vl vu .none->IsPart vl lo->IsPart vu hi->r x lo hi H Q->
  ∃ T id,typeLookup (.type T) "__getitem__"=pure (some (.builtin id))/\s.TypeIs v T/\wpAny (model X.prog X.w) X.A (getItem v (.ref sl)) (EP X pins σ Q) X.xe s
noncomputable def tSl (r:V->Option Int->Option Int->Hp->VK->Prop)(te:TE)(tl th:TO):TE:=fun σ H Q=>te σ H fun x H1=>tl σ H1 fun l H2=>th σ H2 fun u H3=>r x l u H3 Q
theorem yf5 {r:V->Option Int->Option Int->Hp->VK->Prop}(hr:SlR X r)(he:PE X e te)(hl:PO X lo tl)(hu:PO X hi th):PE X (.Subscript e (.Slice lo hi none p2) pos) (tSl r te tl th):=by
 intro pins s σ H Q I h
 show Subscript_ (thn (he pins s σ H _ I h) fun v s1 i=>?_)
 let⟨x,H1,I1,r1,Y⟩:=i
 show wpAny_Slice (thn (hl pins s1 σ H1 _ I1 Y) fun G s2 ⟨l,H2,I2,pl,U⟩=>thn (hu pins s2 σ H2 _ I2 U) fun z j i=>?_)
 let⟨u,N,I3,Z,O⟩:=i
 rw[evalPart_none]
 show wpAny_pure ?_
 have I4:Inv X pins σ N { j with heap:=j.heap.push { cls:=.type "slice",data:=.fields #[G,z,.none] } }:=I3.kept (t':=j.toks) fun b ob q=>Heap.get?_push_of_some _ q
 let⟨T,id,hT,ht,hg⟩:=hr pins { j with heap:=j.heap.push { cls:=.type "slice",data:=.fields #[G,z,.none] } } σ N x v G z l u j.heap.objs.size Q I4 r1 (Heap.IsSliceOf.new ..) pl Z O
 show wpAny (model X.prog X.w) X.A (subscriptTail e (.Slice lo hi none p2) v (.ref j.heap.objs.size)) (EP X pins σ Q) X.xe { j with heap:=j.heap.push { cls:=.type "slice",data:=.fields #[G,z,.none] } }
 show tail_any (ops:=[.ref j.heap.objs.size,v]) ht hT hg (by with_unfolding_all rfl)
noncomputable def cutV (xs:List V)(lo hi:Option Int):List V:=(xs.drop (HT.sIx xs.length 0 lo)).take (HT.sIx xs.length xs.length hi-HT.sIx xs.length 0 lo)
theorem zg6 (xs:List V)(lo hi:Option Int):(cutV xs lo hi).length<=xs.length:=by
 delta cutV
 rw[length_take,length_drop]
 lia
end
end
section
noncomputable def ixN (n:Nat)(i:Int):Option Nat:=if 0<=i then (if i<n then some i.toNat else none)else if -(n:Int)<=i then some (i+n).toNat else none
noncomputable def atI {α:Type}(xs:List α)(i:Int):Option α:=(ixN xs.length i).bind fun j=>xs[j]?
theorem yn7 {n:Nat}{i:Int}{j:Nat}(h:ixN n i=some j):seqIndex? i n=some j/\j<n/\ -(n:Int)<=i/\i<n:=by
 delta ixN at h
 by_cases z:0<=i
 .rw[if_pos z]at h
  by_cases h1:i<n
  .rw[if_pos h1]at h
   have e:i.toNat=j:=Option.some.inj h
   show⟨by rw[seqIndex_of z h1,e],by lia,by lia,h1⟩
  .rw[if_neg h1]at h;ext h
 .rw[if_neg z]at h
  by_cases h1:-(n:Int)<=i
  .rw[if_pos h1]at h
   have e:(i+n).toNat=j:=Option.some.inj h
   show⟨by rw[seqIndex_neg (by lia) h1,e],by lia,h1,by lia⟩
  .rw[if_neg h1]at h;ext h
theorem xo6 {α:Type}{xs:List α}{i:Int}{v:α}(h:atI xs i=some v):∃ j,seqIndex? i xs.length=some j/\xs[j]? =some v/\j<xs.length/\ -(xs.length:Int)<=i/\i<xs.length:=by
 delta atI at h
 cases e:ixN xs.length i with
 |none=>rw[e]at h;ext h
 |some j=>
  rw[e]at h
  let⟨h1,h2,G,z⟩:=yn7 e
  show⟨j,h1,h,h2,G,z⟩
theorem atI_last {α:Type}(xs:List α)(v:α):atI (xs++[v]) (-1)=some v:=by
 have i:(xs++[v]).length=xs.length+1:=by simp
 have e:ixN (xs++[v]).length (-1)=some xs.length:=by
  delta ixN
  rw[i,if_neg (by decide),if_pos (by lia)]
  congr 1
  lia
 delta atI
 rw[e]
 show (xs++[v])[xs.length]? =some v
 simp
noncomputable def zf8 (b:Expr):Prop:=∀ o i,subscripted b false o i=operate [o,i] (getItem o i)
noncomputable def IxR (X:Cx)(r:R2):Prop:=
 ∀(value slice:Expr)(pins:List (Addr×Obj))(s:Shared)(σ:St)(H:Hp)(x y:V)(v u:Value)(Q:VK),Inv X pins σ H s->RelV x v->RelV y u->r x y H Q->
  subscripted slice false v u=operate [v,u] (getItem v u)->wpAny (model X.prog X.w) X.A (subscriptTail value slice v u) (EP X pins σ Q) X.xe s
noncomputable def MtR (X:Cx)(id:String)(r:V->List V->Hp->VK->Prop):Prop:=
 ∀(pins:List (Addr×Obj))(s:Shared)(σ:St)(H:Hp)(x:V)(xs:List V)(v:Value)(us:List Value)(Q:VK),Inv X pins σ H s->RelV x v->Vals xs us->r x xs H Q->
  wpAny (model X.prog X.w) X.A (call (.builtin id) (v::us)) (EP X pins σ Q) X.xe s
section
variable {X:Cx}{a b:Expr}{ta tb:TE}{pos:Pos}
theorem xu6 {r:R2}(hr:IxR X r)(ha:PE X a ta)(z:PE X b tb)(hs:zf8 b):PE X (.Subscript a b pos) (tOp r ta tb):=by
 intro pins s σ H Q I h
 show Subscript_ (binT ha z I h fun v u s2 x y H2 G j i q=>hr a b pins s2 σ H2 x y v u Q G j i q (hs _ _))
noncomputable def rIxL (K:W.Frag):R2:=fun x y H Q=>∃ p xs i v,x= .ref p/\y= .int i/\SqL K H p xs/\atI xs i=some v/\Q v H
theorem zh7:IxR X (rIxL X.K):=by
 intro value G pins s σ H x y v u Q I Z Y h hs
 let⟨p,xs,i,z,rfl,rfl,hq,he,q⟩:=h
 ext Z
 let⟨t,rfl⟩:=Y
 let⟨its,r,pl,hz⟩:=I.list hq
 let⟨j,h1,h2,h3,h4,h5⟩:=xo6 he
 let⟨w,U,N⟩:=r.get h2
 have hl:=r.length
 have hn:=zp8
 have fin:EP X pins σ Q w s:=⟨z,H,I,N,q⟩
 by_cases O:0<=i
 .have hj:i.toNat=j:=by
   rw[seqIndex_of O h5]at h1
   show Option.some.inj h1
  show item_listR pl.isList O (by lia) (by rw[hj];simpa using U) fin hs
 .have hj:(i+(its.toArray.size:Int)).toNat=j:=by
   rw[seqIndex_neg (by lia) h4]at h1
   rw[size_toArray,<-hl]
   show Option.some.inj h1
  show subscriptTail_builtinR (x:=w) pl.isList.typeIs slot_list_getitem.lookup
   (wpAny_getItem_list_neg (Q:=fun r s'=>r=w/\EP X pins σ Q r s') pl.isList (by lia) (by rw[size_toArray] <;> lia) (by lia) (by rw[hj];simpa using U) ⟨rfl,fin⟩) hs
theorem yw0 (its:List Value)(n j:Nat)(u:Value):Obj.mapSeq (·.setIfInBounds j u) { cls:=.type "list",data:=.seq its.toArray n }={ cls:=.type "list",data:=.seq (its.set j u).toArray n }:=by
 simp[Obj.mapSeq]
theorem Inv.lst {pins:List (Addr×Obj)}{σ:St}{H:Hp}{s:Shared}{p:Addr}{xs:List V}(I:Inv X pins σ H s)(h:H p=some (.lst xs)):
  ∃(its:List Value)(n:Nat),Vals xs its/\s.heap.get? p=some { cls:=.type "list",data:=.seq its.toArray n }/\xs.length<=sizeLine:=by
 let⟨z,its,n,r,e⟩:=I.hok p _ h
 show⟨its,n,r,e,z⟩
theorem Inv.lstUpd {pins:List (Addr×Obj)}{σ:St}{H:Hp}{s:Shared}{p:Addr}{xs ys:List V}{its its':List Value}{n n':Nat}{f:Obj->Obj}(I:Inv X pins σ H s)(h:H p=some (.lst xs))
  (z:s.heap.get? p=some { cls:=.type "list",data:=.seq its.toArray n }) (i:f { cls:=.type "list",data:=.seq its.toArray n }={ cls:=.type "list",data:=.seq its'.toArray n' }) (r:Vals ys its') (j:ys.length<=sizeLine) (t:Nat):
  Inv X pins σ (upd H p (.lst ys)) { s with heap:=s.heap.update p f,toks:=t }:=by
 have e:(s.heap.update p f).get? p=some { cls:=.type "list",data:=.seq its'.toArray n' }:=by
  rw[Heap.get?_update_self f z (by rw[i] <;> rfl),i]
 show I.write (x:=p) (e:=p) (by rw[h];trivial) (.inl rfl) (fun b u G q=>(Heap.get?_update_other _ _ (Ne.symm G)).trans q) ⟨_,e⟩ ?_
 show⟨j,its',n',r,e⟩
noncomputable def xv4:V->V->V->Hp->(Hp->Prop)->Prop:=fun o i v H Q=>∃ p xs k j,o= .ref p/\i= .int k/\H p=some (.lst xs)/\ixN xs.length k=some j/\Q (upd H p (.lst (xs.set j v)))
theorem X9:PSet X xv4:=by
 intro pins s σ H o i v ov iv u Q I ro ri Z h
 let⟨p,xs,k,j,rfl,rfl,hp,hj,q⟩:=h
 ext ro
 let⟨t,rfl⟩:=ri
 let⟨its,n,r,z,hz⟩:=I.lst hp
 let⟨h1,h2,O,N⟩:=yn7 hj
 have G:=r.length
 have hn:=zp8
 have Y:Inv X pins σ (upd H p (.lst (xs.set j v))) { s with heap:=s.heap.update p (Obj.mapSeq (·.setIfInBounds j u)) }:=
  I.lstUpd hp z (yw0 its n j u) (r.set Z j) (by rw[length_set];show hz) s.toks
 by_cases U:0<=k
 .have hk:k.toNat=j:=by
   rw[seqIndex_of U N]at h1
   show Option.some.inj h1
  show W.ki_setAt z U (by lia) (by rw[size_toArray,<-G];show N) (by rw[hk];show⟨_,Y,q⟩)
 .have hk:(k+(its.toArray.size:Int)).toNat=j:=by
   rw[seqIndex_neg (by lia) O]at h1
   rw[size_toArray,<-G]
   show Option.some.inj h1
  show W.ki_setBack z (by lia) (by rw[size_toArray,<-G];show O) (by lia) (by rw[hk];show⟨_,Y,q⟩)
theorem zs8 (lo hi:Option Int)(n:Nat):(sliceBounds lo hi none n).1=((HT.sIx n 0 lo:Nat):Int)/\(sliceBounds lo hi none n).2.1=((HT.sIx n n hi:Nat):Int)/\(sliceBounds lo hi none n).2.2=1:=by
 show⟨?_,?_,rfl⟩
 .cases lo with
  |none=>simp[sliceBounds,HT.sIx]
  |some i=>
   simp only[sliceBounds,HT.sIx,Option.getD_none,show (1:Int)>0 by decide,if_true]
   by_cases h:i<0
   .simp only[h,if_true] <;> lia
   .simp only[h,if_false] <;> lia
 .cases hi with
  |none=>simp[sliceBounds,HT.sIx]
  |some i=>
   simp only[sliceBounds,HT.sIx,Option.getD_none,show (1:Int)>0 by decide,if_true]
   by_cases h:i<0
   .simp only[h,if_true] <;> lia
   .simp only[h,if_false] <;> lia
theorem zw7 (its:List Value)(lo hi:Option Int):slicePick its.toArray lo hi none=((its.drop (HT.sIx its.length 0 lo)).take (HT.sIx its.length its.length hi-HT.sIx its.length 0 lo)).toArray:=by
 let⟨h1,h2,i⟩:=zs8 lo hi its.toArray.size
 unfold slicePick
 rw[h1,h2,i]
 simp only[sliceRange_one,pick_run,size_toArray] <;> rfl
noncomputable def rSlL (K:W.Frag):V->Option Int->Option Int->Hp->VK->Prop:=fun x lo hi H Q=>∃ a xs,x= .ref a/\SqL K H a xs/\∀ p,H p=none->Q (.ref p) (upd H p (.lst (cutV xs lo hi)))
theorem xw5:SlR X (rSlL X.K):=by
 intro pins s σ H x v Y U lo hi sl Q I z hs pl G h
 let⟨a,xs,rfl,O,q⟩:=h
 ext z
 let⟨its,r,j,N⟩:=I.list O
 have i:=r.length
 show⟨"list",_,slot_list_getitem.lookup,j.isList.typeIs,?_⟩
 show wpAny_getItem_list_slice j.isList hs pl G .none (by simp) ?_ (by rw[size_toArray] <;> lia)
 rw[zw7,<-i]
 show⟨.ref s.heap.objs.size,_,I.laid (t':=s.toks) (o:=.lst (cutV xs lo hi)) (fun b ob q=>Heap.get?_push_of_some _ q) (Nat.le_refl _) ?_,rfl,q _ (I.hok.fresh (Nat.le_refl _))⟩
 show⟨Nat.le_trans (zg6 xs lo hi) N,_,0,(r.drop (HT.sIx xs.length 0 lo)).take (HT.sIx xs.length xs.length hi-HT.sIx xs.length 0 lo),Heap.get?_push_size _ rfl⟩
noncomputable def zy0:V->Bool
 | .non=>true
 | .bl _=>true
 | .int _=>true
 | .str _=>true
 |_=>false
noncomputable def eqV:V->V->Bool
 | .non,.non=>true
 | .bl a,.bl b=>a==b
 | .bl a,.int b=>(if a then 1 else 0)==b
 | .int a,.bl b=>a==(if b then 1 else 0)
 | .int a,.int b=>a==b
 | .str a,.str b=>a==b
 |_,_=>false
theorem xd4 {A:Around}{s:Shared}{y x:V}{u v:Value}(j:RelV y u)(i:RelV x v)(G:zy0 y=true)(z:zy0 x=true):SeqAt.EqAt A s u v (eqV y x):=by
 cases y with
 |non=>
  ext j
  cases x with
  |non=>ext i;show SeqAt.EqAt.same _
  |bl b=>ext i;show SeqAt.EqAt.none_bool b
  |int b=>let⟨t,rfl⟩:=i;show SeqAt.EqAt.none_int b t
  |str b=>let⟨t,rfl⟩:=i;show SeqAt.EqAt.none_str b t
  |_=>show absurd (show false=true from z) Bool.false_ne_true
 |bl a=>
  ext j
  cases x with
  |non=>ext i;show SeqAt.EqAt.bool_none a
  |bl b=>ext i;show SeqAt.EqAt.bool_bool a b
  |int b=>let⟨t,rfl⟩:=i;show SeqAt.EqAt.bool_int a b t
  |str b=>let⟨t,rfl⟩:=i;show SeqAt.EqAt.bool_str a b t
  |_=>show absurd (show false=true from z) Bool.false_ne_true
 |int a=>
  let⟨t',rfl⟩:=j
  cases x with
  |non=>ext i;show SeqAt.EqAt.int_none a t'
  |bl b=>ext i;show SeqAt.EqAt.int_bool a t' b
  |int b=>let⟨t,rfl⟩:=i;show SeqAt.EqAt.int_int a t' b t
  |str b=>let⟨t,rfl⟩:=i;show SeqAt.EqAt.int_str a t' b t
  |_=>show absurd (show false=true from z) Bool.false_ne_true
 |str a=>
  let⟨t',rfl⟩:=j
  cases x with
  |non=>ext i;show SeqAt.EqAt.str_none a t'
  |bl b=>ext i;show SeqAt.EqAt.str_bool a t' b
  |int b=>let⟨t,rfl⟩:=i;show SeqAt.EqAt.str_int a t' b t
  |str b=>let⟨t,rfl⟩:=i;show SeqAt.EqAt.str_str a t' b t
  |_=>show absurd (show false=true from z) Bool.false_ne_true
 |_=>show absurd (show false=true from G) Bool.false_ne_true
noncomputable def eqU (x:V)(u:Value):Bool:=match u with
 | .none=>eqV .non x
 | .bool b=>eqV (.bl b) x
 | .int i _=>eqV (.int i) x
 | .str z _=>eqV (.str z) x
 |_=>false
theorem xy9 {x y:V}{u:Value}(r:RelV y u)(f:zy0 y=true):eqU x u=eqV y x:=by
 cases y with
 |non=>ext r;rfl
 |bl b=>ext r;rfl
 |int i=>let⟨t,rfl⟩:=r;rfl
 |str z=>let⟨t,rfl⟩:=r;rfl
 |_=>show absurd (show false=true from f) Bool.false_ne_true
theorem zf7 {x:V}:∀{xs:List V}{us:List Value},Vals xs us->xs.all zy0=true->us.any (eqU x)=xs.any fun y=>eqV y x
 |_,_,.nil,_=>rfl
 |y::xs,u::us,.cons r t,f=>by
  rw[all_cons,Bool.and_eq_true]at f
  rw[any_cons,any_cons,xy9 r f.1,zf7 t f.2]
theorem zu6 {A:Around}{s:Shared}{x:V}{v:Value}(j:RelV x v)(z:zy0 x=true):∀{xs:List V}{us:List Value},Vals xs us->xs.all zy0=true->∀ u∈us,SeqAt.EqAt A s u v (eqU x u)
 |_,_,.nil,_=>fun u i=>by ext i
 |y::xs,u::us,.cons r t,f=>fun G i=>by
  rw[all_cons,Bool.and_eq_true]at f
  rcases List.mem_cons.mp i with rfl|i
  .rw[xy9 r f.1];show xd4 r j f.1 z
  .exact zu6 j z t f.2 G i
noncomputable def inV (x:V)(xs:List V):Bool:=xs.any fun y=>eqV y x
noncomputable def rIn (K:W.Frag)(neg:Bool):R2:=fun x y H Q=>∃ p xs,y= .ref p/\(SqL K H p xs\/SqT K H p xs)/\zy0 x=true/\xs.all zy0=true/\Q (.bl (if neg then !inV x xs else inV x xs)) H
theorem yq3:OpR X (compareOp .In) (rIn X.K false):=by
 intro pins s σ H x y v u Q I j G h
 let⟨p,xs,rfl,i,z,fs,q⟩:=h
 ext G
 rcases i with i|i
 .let⟨its,r,pl,hz⟩:=I.list i
  show SeqAt.in_listAt (eqU x) pl.isList (fun w hw=>zu6 j z r fs w (by simpa using hw)) ⟨.bl _,H,I,rfl,?_⟩
  rw[show its.toArray.any (eqU x)=its.any (eqU x)by simp,zf7 r fs]
  show q
 .let⟨its,r,pl,hz⟩:=I.tuple i
  show SeqAt.in_tupleAt (eqU x) pl (fun w hw=>zu6 j z r fs w (by simpa using hw)) ⟨.bl _,H,I,rfl,?_⟩
  rw[show its.toArray.any (eqU x)=its.any (eqU x)by simp,zf7 r fs]
  show q
theorem zn4:G7 X (.builtin "len") (fun xs H Q=>∃ p ys,xs=[.ref p]/\(SqL X.K H p ys\/SqT X.K H p ys)/\Q (.int ys.length) H):=by
 intro pins s σ H xs us Q I r h
 let⟨p,ys,rfl,j,q⟩:=h
 let⟨u,rfl,z⟩:=P6 r
 ext z
 have hn:=zp8
 rcases j with j|j
 .let⟨its,r',pl,hz⟩:=I.list j
  have i:=r'.length
  show Calls.call_len_list pl.isList (by simp only[size_toArray] <;> lia) ⟨.int ys.length,H,I.tok _,⟨s.toks+1,by rw[size_toArray,i]⟩,q⟩
 .let⟨its,r',pl,hz⟩:=I.tuple j
  have i:=r'.length
  show len_tuple pl (by simp only[size_toArray] <;> lia) ⟨.int ys.length,H,I.tok _,⟨s.toks+1,by rw[size_toArray,i]⟩,q⟩
theorem zn3:G7 X (.type "list") (fun xs H Q=>∃ p ys,xs=[.ref p]/\(SqL X.K H p ys\/SqT X.K H p ys)/\∀ l,H l=none->Q (.ref l) (upd H l (.lst ys))):=by
 intro pins s σ H xs us Q I r h
 let⟨p,ys,rfl,z,q⟩:=h
 let⟨u,rfl,U⟩:=P6 r
 ext U
 have fin:∀(its:List Value),Vals ys its->ys.length<=sizeLine->∀(h':Heap)(c':Nat),(∀ b o',s.heap.get? b=some o'->h'.get? b=some o')->
   h'.get? s.heap.objs.size=some { cls:=.type "list",dict:=none,data:=.seq its.toArray c',slots:=#[] }->EP X pins σ Q (.ref s.heap.objs.size) { s with heap:=h' }:=fun its i j h' c' kp e=>
  ⟨.ref s.heap.objs.size,_,I.laid (t':=s.toks) kp (Nat.le_refl _) (show ObjOk X.prog X.w _ h' _ (.lst ys)from⟨j,its,c',i,e⟩),rfl,q _ (I.hok.fresh (Nat.le_refl _))⟩
 rcases z with z|z
 .let⟨its,i,pl,j⟩:=I.list z
  have G:=i.length
  let⟨o,N,O,n,hd⟩:=pl.isList
  show call_list_seq p (.inl rfl) N O hd (fun h' c' kp e=>fin its i j h' c' kp e) (by simp only[size_toArray] <;> lia)
 .let⟨its,i,pl,j⟩:=I.tuple z
  have G:=i.length
  let⟨o,N,O,n,hd⟩:=pl
  show call_list_seq p (.inr rfl) N O hd (fun h' c' kp e=>fin its i j h' c' kp e) (by simp only[size_toArray] <;> lia)
noncomputable def tyV (K:W.Frag)(T:String)(x:V)(H:Hp):Prop:=match x with
 | .str _=>T="str"
 | .int _=>T="int"
 | .ref p=>(T="list"/\∃ xs,SqL K H p xs)\/(T="tuple"/\∃ o,K.lookup p=some o/\o.cls= .type "tuple"/\o.dict=none)\/
   (T="dict"/\((∃ kvs,H p=some (.dK kvs))\/∃ kvs,H p=some (.dT kvs)))\/(T="set"/\∃ S n,H p=some (.set S n))
 |_=>False
theorem xm4 {pins:List (Addr×Obj)}{σ:St}{H:Hp}{s:Shared}{T:String}{x:V}{v:Value}(I:Inv X pins σ H s)(r:RelV x v)(ty:tyV X.K T x H):
  s.TypeIs v T/\∀ a,v= .ref a->∃ ob,s.heap.get? a=some ob/\ob.dict=none:=by
 cases x with
 |str z=>
  let⟨t,rfl⟩:=r
  cases (show T="str" from ty)
  show⟨typeIs_str s z t,fun _ e=>nomatch e⟩
 |int i=>
  let⟨t,rfl⟩:=r
  cases (show T="int" from ty)
  show⟨typeIs_int s i t,fun _ e=>nomatch e⟩
 |ref p=>
  ext r
  rcases ty with⟨rfl,xs,G⟩|⟨rfl,o,j,N,hd⟩|⟨rfl,j⟩|⟨rfl,S,n,j⟩
  .let⟨its,_,pl,_⟩:=I.list G
   show⟨pl.isList.typeIs,fun a e=>?_⟩
   ext e
   let⟨o,n,e,c,hd,_⟩:=pl
   show⟨o,e,hd⟩
  .refine⟨⟨o,I.kIn p o j,N⟩,fun a e=>?_⟩
   ext e
   show⟨o,I.kIn _ o j,hd⟩
  .have z:∃ o,s.heap.get? p=some o/\o.ExactDict:=by
    rcases j with⟨kvs,j⟩|⟨kvs,j⟩
    .let⟨_,_,_,_,o,_,_,e,ex,_⟩:=I.hok p _ j
     show⟨o,e,ex⟩
    .let⟨_,_,_,_,o,_,_,e,ex,_⟩:=I.hok p _ j
     show⟨o,e,ex⟩
   let⟨o,e,ex⟩:=z
   show⟨⟨o,e,ex.1⟩,fun a e2=>?_⟩
   ext e2
   show⟨o,e,ex.2.1⟩
  .let⟨o,_,_,_,e,ex,_⟩:=I.hok p _ j
   show⟨⟨o,e,ex.1⟩,fun a e2=>?_⟩
   ext e2
   show⟨o,e,ex.2.1⟩
 |_=>show False.elim ty
noncomputable def tBM (K:W.Frag)(T:String)(r:V->List V->Hp->VK->Prop)(to:TE)(t:TA):TE:=fun σ H Q=>to σ H fun x H1=>tyV K T x H1/\t σ H1 fun xs H2=>r x xs H2 Q
variable {o e:Expr}{es:List Expr}{to:TE}{t:TA}{name:Str}{apos cpos:Pos}{T id:String}{r:V->List V->Hp->VK->Prop}
theorem xi3 (pa:PlainAttrs T)(slot:Slot T name id)(O:typeOf (.builtin id)=pure (.type "method_descriptor"))(hm:MtR X id r)(ho:PE X o to)(ha:PA X (e::es) t)
  (z:attributeBase o name X.env (eval o X.env)=eval o X.env:=by rfl)
  (N:((backTo cpos (starEach (e::es) X.env)).all (fun x=>!x.1)&&(backToKw cpos (keywordEach [] X.env)).all (fun x=>x.1.isSome)
   &&decide ((e::es).length+([]:List Keyword).length+(if ([]:List Keyword).isEmpty then 0 else 1)<30))=true:=by rfl)
  (j:(apos.endLine==cpos.line)=true:=by rfl) (hs:starEach (e::es) X.env=(false,eval e X.env)::starEach es X.env:=by rfl) (i:(backTo cpos (starEach es X.env)).any (·.1)=false:=by rfl):
  PE X (.Call (.Attribute o name apos) (e::es) [] cpos) (tBM X.K T r to t):=by
 intro pins s σ H Q I h
 show wpAny_Call_method_late z N j rfl (thn (ho pins s σ H _ I h) fun v s1 G=>?_)
 let⟨x,H1,Y,r1,ty,q1⟩:=G
 let⟨h1,h2⟩:=xm4 Y r1 ty
 show⟨T,id,pa,slot,O,h1,h2,?_⟩
 have U:=ha cpos pins s1 σ H1 _ Y q1
 rw[hs]at U ⊢
 show Calls.callWith_builtin (by show (false || (backTo cpos (starEach es X.env)).any (·.1))=false;rw[i] <;> rfl) (Calls.evalArgs_plain ?_)
 show thn U fun us s2 zQ=>by let⟨vs,H2,I2,r2,Z⟩:=zQ;show hm pins s2 σ H2 x vs v us Q I2 r1 r2 Z
end
end
section
noncomputable def MtM (X:Cx)(id:String)(r:V->List V->Hp->VK->Prop):Prop:=
 ∀(pins:List (Addr×Obj))(s:Shared)(σ:St)(H:Hp)(x:V)(xs:List V)(v:Value)(us:List Value)(Q:VK),Inv X pins σ H s->RelV x v->Vals xs us->r x xs H Q->
  wpAny (model X.prog X.w) X.A (call (.builtin id) (v::us)) (EP X pins σ Q) X.xe s
theorem Vals.one:∀{x:V}{us:List Value},Vals [x] us->∃ u,us=[u]/\RelV x u:=by intro x us r;cases r with|cons r t=>cases t;exact⟨_,rfl,r⟩
theorem Vals.rep {xs:List V}{us:List Value}(h:Vals xs us):∀ k:Nat,Vals (List.replicate k xs).flatten (List.replicate k us).flatten
 |0=>.nil
 |k+1=>by
  rw[replicate_succ,replicate_succ,flatten_cons,flatten_cons]
  show Vals.append h (Vals.rep h k)
theorem zo4 (its:List Value):∀(k:Nat)(acc:List Value),
  List.foldl (fun j i=>j++i) acc.toArray (List.replicate k its.toArray)=(acc++(List.replicate k its).flatten).toArray
 |0,acc=>by simp
 |k+1,acc=>by
  have e:acc.toArray++its.toArray=(acc++its).toArray:=by simp
  have e2:(acc++its)++(List.replicate k its).flatten=acc++(List.replicate (k+1) its).flatten:=by
   rw[replicate_succ,flatten_cons,append_assoc]
  rw[<-e2,<-zo4 its k (acc++its),<-e,replicate_succ,foldl_cons]
section
variable {X:Cx}{pins:List (Addr×Obj)}{σ:St}{H:Hp}{s:Shared}{l b:Addr}{xs ys zs:List V}
theorem Inv.lset {its its':List Value}{n:Nat}{f:Array Value->Array Value}{t':Nat}(I:Inv X pins σ H s)(O:H l=some (.lst xs))
  (e:s.heap.get? l=some { cls:=.type "list",data:=.seq its.toArray n }) (G:f its.toArray=its'.toArray) (j:Vals ys its') (i:ys.length<=sizeLine):
  Inv X pins σ (upd H l (.lst ys)) { s with heap:=s.heap.update l (Obj.mapSeq f),toks:=t' }:=by
 have q:=PySem.IsL.update e f
 rw[G]at q
 show I.write (x:=l) (e:=l) (by rw[O];show trivial) (.inl rfl) (fun b' u N z=>(Heap.get?_update_other s.heap (Obj.mapSeq f) (Ne.symm N)).trans z) ⟨_,q⟩ ?_
 show⟨i,its',_,j,q⟩
theorem Inv.lnew {its:List Value}{t':Nat}(I:Inv X pins σ H s)(j:Vals ys its)(i:ys.length<=sizeLine):
  Inv X pins σ (upd H s.heap.objs.size (.lst ys)) { s with heap:=s.heap.push { cls:=.type "list",data:=.seq its.toArray },toks:=t' }:=
 I.laid (fun _ _ q=>Heap.get?_push_of_some _ q) (Nat.le_refl _) ⟨i,its,0,j,Heap.get?_push_size _ rfl⟩
theorem Inv.fresh (I:Inv X pins σ H s):H s.heap.objs.size=none:=I.hok.fresh (Nat.le_refl _)
theorem Inv.lstM (I:Inv X pins σ H s)(i:H l=some (.lst xs)):xs.length<=sizeLine/\∃(its:List Value)(n:Nat),Vals xs its/\xs.length=its.length/\s.heap.get? l=some { cls:=.type "list",data:=.seq its.toArray n }:=by
 let⟨z,its,n,r,e⟩:=I.hok l _ i
 show⟨z,its,n,r,r.length,e⟩
theorem ye7 {n:Nat}(h:n<=sizeLine):Builtin.List.listTooLong n=false:=by
 unfold Builtin.List.listTooLong
 show decide_eq_false (by lia)
end
section
variable {X:Cx}
noncomputable def zv2:V->List V->Hp->VK->Prop:=fun x vs H Q=>∃ l xs y,x= .ref l/\vs=[y]/\H l=some (.lst xs)/\xs.length<sizeLine/\Q .non (upd H l (.lst (xs++[y])))
theorem zq5:MtM X "list.append" zv2:=by
 intro pins s σ H x vs v us Q I j G h
 let⟨l,xs,y,rfl,rfl,i,O,q⟩:=h
 ext j
 let⟨u,rfl,N⟩:=G.one
 let⟨z,its,n,r,U,e⟩:=I.lstM i
 show call_meets F.slot_list_append ⟨_,e,rfl⟩ F.entry_list_append (F.args_list_append_2 _ _) (PySem.list_append l its.toArray n u (by rw[size_toArray];lia)) ⟨e,?_⟩
 show⟨.non,_,I.lset (its':=its++[u]) i e (by simp) (r.append (.cons N .nil)) ?_,rfl,q⟩
 rw[length_append,length_singleton]
 lia
noncomputable def rRep:R2:=fun x y H Q=>∃ l k xs,x= .ref l/\y= .int k/\H l=some (.lst xs)/\ -(2^63)<=k/\k<2^63/\xs.length*k.toNat<=sizeLine/\
 ∀ p,H p=none->Q (.ref p) (upd H p (.lst (List.replicate k.toNat xs).flatten))
theorem xr7 {α:Type}(xs:List α)(k:Nat):(List.replicate k xs).flatten.length=k*xs.length:=by
 induction k with
 |zero=>simp
 |succ k i=>rw[replicate_succ,flatten_cons,length_append,i,Nat.succ_mul,Nat.add_comm]
theorem xh0:OpR X (binaryOp .Mult) rRep:=by
 intro pins s σ H x y v u Q I rx ry h
 let⟨l,k,xs,rfl,rfl,hH,h1,h2,hz,q⟩:=h
 ext rx
 let⟨t,rfl⟩:=ry
 let⟨z,its,n,r,hl,e⟩:=I.lstM hH
 have G:its.toArray.size*k.toNat<=sizeLine:=by rw[size_toArray,<-hl];show hz
 have O:¬ its.toArray.size*k.toNat>(2^63-1) / 8:=by
  have:(sizeLine:Nat)<=(2^63-1) / 8:=by decide
  lia
 have N:¬ (!Builtin.List.listFitsIndex k)=true:=by
  rw[fitsIndex_both h1 h2]
  show Bool.false_ne_true
 have i:¬ Builtin.List.listTooLong (its.toArray.size*k.toNat)=true:=by
  rw[ye7 G]
  show Bool.false_ne_true
 have j:List.foldl (fun Z Y=>Z++Y) #[] (List.replicate (if its.toArray.isEmpty=true then 0 else k.toNat) its.toArray)=(List.replicate k.toNat its).flatten.toArray:=by
  have f0:∀ m:Nat,List.foldl (fun Z Y=>Z++Y) #[] (List.replicate m its.toArray)=(List.replicate m its).flatten.toArray:=fun m=>by
   have:=zo4 its m []
   rw[nil_append]at this
   show this
  rw[f0]
  cases its with
  |nil=>simp
  |cons a r'=>rw[if_neg (by simp)]
 show wpAny_binaryOp_repeat_ref (T:="list") (U:="int") (by decide) ⟨_,e,rfl⟩ (fun s'=>typeIs_int s' k t) noFill_list_mul F.fills_int_mul F.slot_int_rmul repeat_list F.slot_int_index.lookup
  (call_meets F.slot_int_rmul (typeIs_int s k t) F.entry_int_rmul (F.args_int_rmul_2 _ _) (int___rmul___int_list k t l its.toArray n)
   ⟨e,rfl,⟨_,e,rfl⟩,call_meets F.slot_list_mul ⟨_,e,rfl⟩ F.entry_list_mul (F.args_list_mul_2 _ _) (AutoListH.list___mul___list_int_3 l its.toArray n k t N O i) ⟨e,?_⟩⟩)
 rw[j]
 show⟨.ref _,_,I.lnew (t':=s.toks) (r.rep k.toNat) (by rw[xr7,Nat.mul_comm];show hz),rfl,q _ I.fresh⟩
end
section
variable {prog:Program}{w:World}{A:Around}{E:Value->Shared->Prop}{s:Shared}
end
section
variable {X:Cx}
end
end
end L2
namespace Att
open PySem PySem.W PySem.Calls PyProof.Rows
theorem B8 {P:Params}{h:Heap}:∀(ns:List Int)(vs:List Value),WellAll P h vs (ns.map WData.int)->IntsAre vs ns:=by
 intro ns
 induction ns with
 |nil=>
  intro vs w
  rw[List.map_nil]at w
  ext w
  show .nil
 |cons n ns i=>
  intro vs w
  rw[List.map_cons]at w
  cases w with
  |cons a b=>
   ext a
   show .cons _ _ (i _ b)
theorem yu6 {l:OpenLaw}{n:Nat}(hn:l.most=some n){P:Params}{h:Heap}{args:List WData}{i:List Value}
  (j:l.row.toRowW.claim.pre args=true) (O:WellAll P h i args):
  ∃ a vs ns,i=[Value.ref a]/\args=[WData.list (ns.map WData.int)]/\h.get? a=some { cls:=.type "list",data:=.seq vs.toArray }/\IntsAre vs ns/\ns.length<=n:=by
 have U:WShape.hasAll [] args [.list .int]=true:=(pre_splitW j).1
 have Y:l.pre.holds [] { args:=args }=true:=(pre_splitW j).2
 let⟨d,r,rfl,h1,h2⟩:=hasAllW_cons U
 obtain rfl:=hasAllW_nil h2
 let⟨xs,rfl,h3⟩:=hasW_list h1
 let⟨ns,rfl⟩:=items_int h3
 have z:ns.length<=n:=by
  unfold OpenLaw.pre at Y
  have N:(WTm.not (.lt (.lit (.int (n:Int))) (.len (.arg 0)))).holds [] { args:=[.list (ns.map .int)] }=true:=by
   have N:=(holds_andW Y).1
   rw[hn]at N
   show N
  have I:=condW_of N (w_not (w_lt w_lit (w_len_list (w_arg rfl))))
  rw[List.length_map]at I
  show Nat.le_of_not_lt fun q=>?_
  have q':(n:Int)<((ns.length:Nat):Int):=by lia
  first
   | (rw[decide_eq_true q']at I;show absurd I (by decide))
   | (simp at I;lia)
 cases O with
 |cons w1 Z=>
  ext Z
  cases w1 with
  |list ho G=>show⟨_,_,ns,rfl,rfl,ho,B8 ns _ G,z⟩
theorem ys1 (l:OpenLaw)(args:List WData):l.row.toRowW.claim.post args (.bool true) args=true:=
 postW_of (r:=l.row.toRowW) (X:=(true==true))
  (show WShape.has [] (.bool true) .bool=true by first|rfl|decide|simp[WShape.has,WShape.arms,WShape.armsAll])
  (show (WTm.eq .res (.lit (.bool true))).value [] { args:=args,res:=some (.bool true),after:=args }=some (.bool (true==true))from w_eq_bool (w_res rfl) w_lit) rfl
theorem attach_call {l:OpenLaw}{n:Nat}{q:Program}{j:List Str}{XP:(Str->Option Value)->Heap->Prop}{YP:World->Heap->Prop}{d:DefRec}
  (hn:l.most=some n) (a3:d.params.defaults=[])
  (call:∀(w:World)(s₀ i:Shared)(mg mb:Str->Option Value)(U:Addr)(o:Obj)(pm Z doc:Value)(a:Addr)(vs:List Value)(ns:List Int),
   Ground q j [] XP w s₀ mg mb i.heap->YP w i.heap->
   i.heap.get? U=some o->o.data= .func (docDef d.name d.params d.body d.scope pm Z doc)->i.heap.CodeRec Z d.name->mg d.name=some (.ref U)->
   i.heap.get? a=some { cls:=.type "list",data:=.seq vs.toArray }->IntsAre vs ns->ns.length<=n->i.gens=#[]->
   codeAny (model l.prog w) callerA (.call (.ref U) ⟨[.ref a],[]⟩) (fun r s'=>r= .ok (.ret (.bool true))/\OldK i.heap s'.heap/\s'.os=i.os/\AllBare s'.gens) i):
  WalkO q j XP YP l.row.toRowW d [] (fun f vs=>PySem.call f vs):=by
 intro w s₀ i mg mb G Y U o pm Z doc dV kV ho hd a4 hD a2 hg args a5 as I a6 a7 a1 a8
 obtain rfl:dV= .none:=Dflts.none hD a3
 obtain rfl:kV= .none:=Dflts.noKw hD
 let⟨a,vs,ns,rfl,rfl,N,z,O⟩:=yu6 hn I a1
 show enter_call (codeAny_mono (call w s₀ i mg mb U o pm Z doc a vs ns G Y ho (fd_plain hd) a4 a2 N z O hg) fun r s' hq=>?_)
 let⟨rfl,h2,h3,h4⟩:=hq
 show⟨.inl ⟨.bool true,.bool true,[],rfl,fun _=>rfl,.bool true,ys1 l _,fun _=>⟨List.Pairwise.nil,fun _ hm=>(nomatch hm)⟩⟩,h2,h3,h4⟩
section
variable {prog:Program}{w:World}{A:Around}{E:Value->Shared->Prop}{s:Shared}{K:Frag}
end
end Att
namespace L2
open List
open PySem PySem.Spec PyProof.Rows
section
theorem zs1:∀{vs:List Value}{ns:List Int},IntsAre vs ns->Vals (ns.map V.int) vs
 |_,_,.nil=>.nil
 |_,_,.cons n t h=>.cons ⟨t,rfl⟩ (zs1 h)
noncomputable def Only (H:Hp):Prop:=∀ b,H b=none\/∃ o xs,H b=some (.frz o (.lst xs))
theorem yc4 {P:Program}{w:World}{K:W.Frag}{mg mb:Str->Option Value}{CX:CXT}{k:Nat}{fa a:Addr}{fd:FuncData}{x:Str}{sp:Sp}{i:Shared}{vs:List Value}{ns:List Int}
  (KX:K.In i.heap) (a1:i.heap.Ns mainGlobals mg) (G:i.heap.Ns builtinsNs mb) (a6:∀ x:Str,x≠"__name__"->mb x=bootBuiltins x) (a2:i.heap.NoLimit) (hg:i.gens=#[])
  (ha:i.heap.get? a=some { cls:=.type "list",data:=.seq vs.toArray }) (hi:IntsAre vs ns) (hl:ns.length<=sizeLine) (hr:Room k callerA)
  (F:∀ base:Heap,K.In base->base.Ns mainGlobals mg->FnOk P w K mg base CX k fa fd [x] sp) (O:∀(s:Shared)(u:Value),BindsTo s fd ⟨[u],[]⟩ [(x,u)])
  (a5:∀ H:Hp,Only H->SqL K H a (ns.map V.int)->sp [.ref a] H (fun v _=>v= .bl true) fun _ _ _=>False)
  (a7:∀ H e s',CX [] H i (fun _ _ _=>False) e s'->False):
  codeAny (model P w) callerA (.call (.ref fa) ⟨[.ref a],[]⟩) (fun r s'=>r= .ok (.ret (.bool true))/\OldK i.heap s'.heap/\s'.os=i.os/\AllBare s'.gens) i:=by
 have rv:=zs1 hi
 have Y:=hi.length
 have N:∀ H:Hp,Only H->SqL K H a (ns.map V.int)->HOk P w H i.heap->(∀ b,H b≠none->b=a)->(H a≠none->K.lookup a=none)->
   codeAny (model P w) callerA (.call (.ref fa) ⟨[.ref a],[]⟩) (fun r s'=>r= .ok (.ret (.bool true))/\OldK i.heap s'.heap/\s'.os=i.os/\AllBare s'.gens) i:=by
  intro H hO hS hok hA hK
  have j:∀{b:Addr}{o:Obj},i.heap.get? b=some o->H b=none->(hidT i.heap H).get? b=some o:=fun e n=>yc9 e n
  have a4:∀{b:Addr}{o:Obj}{es:Array DictEntry}{ep:Nat},i.heap.get? b=some o->o.data= .dict es ep->H b=none:=fun{b o es ep} e d=>by
   cases q:H b with
   |none=>rfl
   |some u=>
    have e':b=a:=hA b (by rw[q];simp)
    subst e'
    rw[ha]at e;ext e
    have d':Data.seq vs.toArray _=Data.dict es ep:=d
    ext d'
  have I:∀{b:Addr}{m:Str->Option Value},i.heap.Ns b m->(hidT i.heap H).Ns b m:=fun{b m} ⟨o,es,ep,e,d,r⟩=>⟨o,es,ep,j e (a4 e d),d,r⟩
  have a3:K.In (hidT i.heap H):=fun b o e=>j (KX b o e) (by
   cases q:H b with
   |none=>rfl
   |some u=>
    have e':b=a:=hA b (by rw[q];simp)
    subst e'
    rw[hK (by rw[q];simp)]at e;ext e)
  have hM:Mod K mg (hidT i.heap H):=⟨a3,I a1,⟨mb,I G,a6⟩,let ⟨mc,h1,h2⟩:=a2;⟨mc,I h1,h2⟩⟩
  have e0:Env0 P w K mg (hidT i.heap H) callerA [] i H:=⟨rfl,hM,fun b o e=>xs3 e,Nat.le_of_eq (ym2 _ _),trivial,fun b G=>absurd (show b∈([]:List Addr)from G) (by simp),hok,.of_eq hg⟩
  show codeAny_mono ((F _ a3 (I a1)).run callerA [] i H ⟨[.ref a],[]⟩ [.ref a] [.ref a] _ _ hr e0 (O i (.ref a)) (.cons rfl .nil) (a5 H hO hS)) fun r s' h=>?_
  cases r with
  |error e=>show(a7 H e s' h).elim
  |ok fl=>
   cases fl with
   |next=>show False.elim h
   |brk=>show False.elim h
   |cont=>show False.elim h
   |ret u=>
    let⟨v,H',os,bare,un,Z,r',q⟩:=h
    have q':v= .bl true:=q
    subst q'
    obtain rfl:u=Value.bool true:=r'
    show⟨rfl,OldK.of_keep fun b o e=>?_,os,bare⟩
    cases q:H b with
    |none=>show un.keep b o e q (by intro z;show absurd (show b∈([]:List Addr)from z) (by simp)) (by simp)
    |some u=>
     rcases hO b with z|⟨ob,xs,z⟩
     .rw[q]at z;ext z
     .have z2:=un.frzs b ob _ z
      let⟨e1,_⟩:=hok b _ z
      let⟨e2,_⟩:=Z b _ z2
      rw[e]at e1;ext e1
      show e2
 cases hk:K.lookup a with
 |some o=>
  have e:=KX a o hk
  rw[ha]at e
  ext e
  show N (fun _=>none) (fun _=>.inl rfl) (.inr ⟨_,vs.toArray,_,hk,rfl,rfl,rfl,by rw[size_toArray,Y];show hl,by simpa using rv⟩) (fun b u z=>by have U:(none:Option HO)=some u:=z;ext U) (fun b z=>absurd rfl z) fun z=>absurd rfl z
 |none=>
  show N (fun b=>if b=a then some (.frz { cls:=.type "list",data:=.seq vs.toArray } (.lst (ns.map V.int)))else none) (fun b=>?_) (.inl (.inr ⟨{ cls:=.type "list",data:=.seq vs.toArray },if_pos rfl⟩)) (fun b u z=>?_) (fun b z=>?_) fun _=>hk
  .by_cases G:b=a
   .exact .inr ⟨_,_,if_pos G⟩
   .exact .inl (if_neg G)
  .by_cases G:b=a
   .have U:=(if_pos G).symm.trans z
    ext U
    subst G
    show⟨ha,by rw[length_map];show hl,vs,_,rv,ha⟩
   .have U:=(if_neg G).symm.trans z
    ext U
  .by_cases G:b=a
   .exact G
   .exact absurd (if_neg G) z
end
section
theorem walk_of {l:W.OpenLaw}{n k:Nat}{q:Program}{j:List Str}{XP:(Str->Option Value)->Heap->Prop}{YP:World->Heap->Prop}{d:DefRec}{K:Params->W.Frag}{CX:World->CXT}{sp:World->Sp}{x:Str}
  (hn:l.most=some n) (Z:n<=sizeLine) (a2:d.params.defaults=[]) (hr:Room k callerA)
  (hY:∀(w:World)(h:Heap),YP w h->(K w.params).In h)
  (F:∀(w:World)(mg:Str->Option Value)(O:Addr)(h:Heap),(K w.params).In h->h.Ns mainGlobals mg->mg d.name=some (.ref O)->
   ∃ fd:FuncData,(∀(s:Shared)(u:Value),BindsTo s fd ⟨[u],[]⟩ [(x,u)])/\
    ∀ base:Heap,(K w.params).In base->base.Ns mainGlobals mg->FnOk l.prog w (K w.params) mg base (CX w) k O fd [x] (sp w))
  (U:∀(w:World)(H:Hp)(a:Addr)(ns:List Int),ns.length<=n->Only H->SqL (K w.params) H a (ns.map V.int)->sp w [.ref a] H (fun v _=>v= .bl true) fun _ _ _=>False)
  (a3:∀(w:World)(H:Hp)(s:Shared)(e:Value)(s':Shared),CX w [] H s (fun _ _ _=>False) e s'->False):
  W.WalkO q j XP YP l.row.toRowW d [] (fun f vs=>PySem.call f vs):=by
 show Att.attach_call hn a2 fun w s₀ I mg mb O o pm cd doc a vs ns G Y ho hd a4 a1 N z i hg=>?_
 have KX:=hY w _ Y
 let⟨fd,hb,hF⟩:=F w mg O _ KX G.T.g a1
 show yc4 KX G.T.g G.T.b G.T.builtins G.T.nolimit hg N z (Nat.le_trans i Z) hr hF hb (fun H hO hS=>U w H a ns i hO hS) fun H e s'=>a3 w H I e s'
end
section
noncomputable def S1 (s:Stmt):Arguments:=match s with
 | .FunctionDef _ a _ _ _ _ _ _ _ _=>a
 |_=>{ posonlyargs:=[],args:=[],vararg:=none,kwonlyargs:=[],kw_defaults:=[],kwarg:=none,defaults:=[] }
noncomputable def d7 (s:Stmt):List Stmt:=match s with
 | .FunctionDef _ _ b _ _ _ _ _ _ _=>b
 |_=>[]
noncomputable def z9 (s:Stmt):Scope:=match s with
 | .FunctionDef _ _ _ _ _ _ sc _ _ _=>sc
 |_=>{ kind:=.function,names:=[],isGenerator:=false,isCoroutine:=false }
noncomputable abbrev CX0:CXT:=fun _ _ _ _ _ _=>False
noncomputable abbrev E0:XK:=fun _ _ _=>False
theorem wz2 {X:Cx}:yi8 CX0 X E0:=fun _ _ _ _ _ _ _ h=>h.elim
structure Fun (K:W.Frag)(x qual:Str)(st:Stmt)(f:Addr)(fd:FuncData):Prop where
 ex:∃(oc:Value)(od:Option Addr)(kV doc pm:Value)(an:Option Addr)(cdv ct:Value)(osl:Array (Option Value)),
  fd=W.fnOf x qual (S1 st) (d7 st) (z9 st) .none kV doc pm an cdv ct/\K.lookup f=some ⟨oc,od,.func fd,osl⟩/\W.codeIn K cdv qual=true
 kp:W.keepIn K (.ref f)=true
section
variable {P:Program}{w:World}{K:W.Frag}{mg:Str->Option Value}{base:Heap}
theorem Fun.ok {x qual:Str}{st:Stmt}{f:Addr}{fd:FuncData}{N ps:List Str}{k:Nat}{sp:Sp}(F:Fun K x qual st f fd)(S:FnScope N ps (z9 st))(len:∀ vs H Q E,sp vs H Q E->vs.length=ps.length)
  (i:∀(cdv:Value)(A:Around)(outer:List Env)(s:Shared)(H:Hp)(vs:List V)(Q:VK)(E:XK),Room k (A.deeper (envOfC qual (z9 st) s.heap.objs.size f cdv))->sp vs H Q E->
   ∃ t,PSs (cxOf CX0 P w K mg base N qual (z9 st) f cdv A outer s H E).nox (d7 st) t/\t { nx:=fun _ H'=>Q .non H',rt:=Q } (V3 N vs) H):FnOk P w K mg base CX0 (k+1) f fd ps sp:=by
 let⟨oc,od,kV,doc,pm,an,cdv,ct,osl,rfl,G,z⟩:=F.ex
 show wx5 G z S len fun A outer s H vs Q E hr j=>?_
 let⟨t,h,q⟩:=i cdv A outer s H vs Q E hr j
 show⟨t,h.nox,q⟩
theorem Fun.binds {x qual:Str}{st:Stmt}{f:Addr}{fd:FuncData}{ps:List Str}(F:Fun K x qual st f fd)
  (h:∀(kV doc pm:Value)(an:Option Addr)(cdv ct:Value)(us:List Value),us.length=ps.length->bindArgs (W.fnOf x qual (S1 st) (d7 st) (z9 st) .none kV doc pm an cdv ct) ⟨us,[]⟩=pure (ps.zip us)):Binds K fd ps []:=by
 let⟨oc,od,kV,doc,pm,an,cdv,ct,osl,rfl,j,i⟩:=F.ex
 show .all (h kV doc pm an cdv ct)
theorem ym7 {x qual:Str}{st:Stmt}{f:Addr}{oc:Value}{od an:Option Addr}{osl:Array (Option Value)}{kV doc pm cdv ct:Value}(l:K.lookup f=some ⟨oc,od,.func (W.fnOf x qual (S1 st) (d7 st) (z9 st) .none kV doc pm an cdv ct),osl⟩)
  (c:W.codeIn K cdv qual=true) (k:W.keepIn K (.ref f)=true):Fun K x qual st f (W.fnOf x qual (S1 st) (d7 st) (z9 st) .none kV doc pm an cdv ct):=⟨⟨oc,od,kV,doc,pm,an,cdv,ct,osl,rfl,l,c⟩,k⟩
end
section
variable {X:Cx}
theorem pv (i:Nat){x:Str}{pos:Pos}(G:X.N[i]? =some x:=by rfl)(z:Vis X.env.scope x:=by first|show Or.inl rfl|show Or.inr (Or.inl rfl)|show Or.inr (Or.inr rfl))(hd:(x==("__debug__":Str))=false:=by decide)
  (j:(x==("__classdict__":Str))=false:=by decide):PE X (.Name x pos) (tVar i):=xi1 G z hd j
end
theorem iteF {A B:Prop}(h:B):if false=true then A else B:=by
 rw[if_neg Bool.false_ne_true]
 show h
theorem iteT {A B:Prop}(h:A):if true=true then A else B:=by
 rw[if_pos rfl]
 show h
noncomputable def Same (H H':Hp):Prop:=∀ b o,H b=some o->H' b=some o
theorem Same.refl (H:Hp):Same H H:=fun _ _ h=>h
theorem Same.trans {H H1 H2:Hp}(a:Same H H1)(b:Same H1 H2):Same H H2:=fun c o h=>b c o (a c o h)
theorem Same.free {H H':Hp}(e:Same H H'){l:Addr}(h:H' l=Option.none):H l=Option.none:=by
 cases q:H l with
 |none=>rfl
 |some o=>
  rw[e l o q]at h
  ext h
theorem Same.seq {K:W.Frag}{H H':Hp}{a:Addr}{xs:List V}(e:Same H H')(h:SqL K H a xs):SqL K H' a xs:=by
 rcases h with (h|⟨o,h⟩)|h
 .exact .inl (.inl (e _ _ h))
 .exact .inl (.inr ⟨o,e _ _ h⟩)
 .exact .inr h
end
section
noncomputable def clOf (cells:List (Str×Addr)):List (Str×NameKind)->List (Str×Addr)->List (Str×Addr)
 |[],cs=>cs
 | (n,k)::r,cs=>if k= .free then (match cells.lookup n with |some c=>clOf cells r ((n,c)::cs)|none=>clOf cells r cs)else clOf cells r cs
theorem O3 {env:Env}:∀(names:List (Str×NameKind))(j:List (Str×Addr)),(∀ x∈names,x.2= .free->∃ c,env.cells.lookup x.1=some c)->
  (forIn names j fun x r=>if (x.2==NameKind.free)=true then do let c ← cellOf env x.1;pure (ForInStep.yield ((x.1,c)::r))else pure (ForInStep.yield r):Sem (List (Str×Addr)))=pure (clOf env.cells names j)
 |[],j,_=>rfl
 | (n,k)::r,j,h=>by
  have hr:∀ x∈r,x.2= .free->∃ c,env.cells.lookup x.1=some c:=fun x G=>h x (mem_cons_of_mem _ G)
  rw[forIn_cons]
  by_cases z:k= .free
  .subst z
   let⟨c,I⟩:=h (n,.free) mem_cons_self rfl
   have i:env.cells.lookup n=some c:=I
   have e:cellOf env n=pure c:=by unfold cellOf;rw[i]
   simp only[beq_self_eq_true,if_true,e,pure_bind]
   rw[O3 r _ hr]
   simp only[clOf,if_true,i]
  .have hb:(k==NameKind.free)=false:=by simpa using z
   simp only[hb,Bool.false_eq_true,if_false,pure_bind]
   rw[O3 r j hr]
   simp only[clOf,z,if_false]
theorem zz1 {env:Env}{scope:Scope}(h:∀ x∈scope.names,x.2= .free->∃ c,env.cells.lookup x.1=some c):closureFor scope env=pure (clOf env.cells scope.names []):=by
 have q:=O3 (env:=env) scope.names [] h
 simp only[closureFor]
 show Eq.trans ?_ q
 have e:∀(m:Sem (List (Str×Addr))),(m >>= fun i=>pure i)=m:=fun m=>by simp
 first| (rw[e];rfl)|rfl|simp
theorem E9 {cells:List (Str×Addr)}{x:Str}{c:Addr}:∀(names:List (Str×NameKind))(i:List (Str×Addr)),(∀ y d,i.lookup y=some d->cells.lookup y=some d)->(clOf cells names i).lookup x=some c->cells.lookup x=some c
 |[],i,h,e=>h x c e
 | (n,k)::r,i,h,e=>by
  unfold clOf at e
  split at e
  .split at e
   .rename_i d hd
    show E9 r _ (fun y d' q=>?_) e
    rw[lookup_cons]at q
    split at q
    .rename_i hy
     have:y=n:=by simpa using hy
     subst this
     ext q;show hd
    .exact h y d' q
   .exact E9 r i h e
  .exact E9 r i h e
theorem M2 {cells:List (Str×Addr)}{x:Str}:∀(names:List (Str×NameKind))(i:List (Str×Addr)),(i.lookup x).isSome=true->((clOf cells names i).lookup x).isSome=true
 |[],i,h=>h
 | (n,k)::r,i,h=>by
  unfold clOf
  split
  .split
   .refine M2 r _ ?_
    rw[lookup_cons];split
    .rfl
    .exact h
   .exact M2 r i h
  .exact M2 r i h
theorem M3 {cells:List (Str×Addr)}{x:Str}{c:Addr}(j:cells.lookup x=some c):∀(names:List (Str×NameKind))(i:List (Str×Addr)),(x,NameKind.free)∈names->((clOf cells names i).lookup x).isSome=true
 |[],i,h=>absurd h (by simp)
 | (n,k)::r,i,h=>by
  unfold clOf
  rcases List.mem_cons.mp h with e|h
  .cases e
   rw[if_pos rfl,j]
   show M2 r _ ?_
   simp[lookup_cons]
  .split
   .split
    .exact M3 j r _ h
    .exact M3 j r i h
   .exact M3 j r i h
theorem X1 {env:Env}:∀{names:List (Str×NameKind)}{x:Str},names.lookup x=some .free->
  (names.map fun(n,k)=>if (k==NameKind.free&&env.scope.kind== .function&&env.kindOf n==some .cell)then (n,NameKind.cell)else (n,k)).lookup x=some .cell\/
  (names.map fun(n,k)=>if (k==NameKind.free&&env.scope.kind== .function&&env.kindOf n==some .cell)then (n,NameKind.cell)else (n,k)).lookup x=some .free
 |[],_,h=>by simp at h
 | (n,k)::r,x,h=>by
  have i:=@X1 env r x
  show List.lookup x ((if (k==NameKind.free&&env.scope.kind== .function&&env.kindOf n==some .cell)=true then (n,NameKind.cell)else (n,k))::_)=_\/List.lookup x ((if (k==NameKind.free&&env.scope.kind== .function&&env.kindOf n==some .cell)=true then (n,NameKind.cell)else (n,k))::_)=_
  by_cases j:(k==NameKind.free&&env.scope.kind== .function&&env.kindOf n==some .cell)=true
  .rw[if_pos j]
   cases hx:x==n with
   |true=>left;simp only[lookup_cons,hx]
   |false=>simp only[lookup_cons,hx]at h ⊢;show i h
  .rw[if_neg j]
   cases hx:x==n with
   |true=>right;simp only[lookup_cons,hx]at h ⊢;show h
   |false=>simp only[lookup_cons,hx]at h ⊢;show i h
theorem S4 {env:Env}:∀{names:List (Str×NameKind)}{x:Str}{k:NameKind},(∀ y∈names,y.2≠ .cell)->
  (names.map fun(n,k)=>if (k==NameKind.free&&env.scope.kind== .function&&env.kindOf n==some .cell)then (n,NameKind.cell)else (n,k)).lookup x=some k->(k= .cell\/k= .free)->(x,NameKind.free)∈names
 |[],_,_,_,h,_=>by simp at h
 | (n,k')::r,x,k,hc0,h,j=>by
  have G:=@S4 env r x k (fun y I=>hc0 y (mem_cons_of_mem _ I))
  have h:List.lookup x ((if (k'==NameKind.free&&env.scope.kind== .function&&env.kindOf n==some .cell)=true then (n,NameKind.cell)else (n,k'))::_)=_:=h
  by_cases z:(k'==NameKind.free&&env.scope.kind== .function&&env.kindOf n==some .cell)=true
  .rw[if_pos z]at h
   have N:k'= .free:=by
    have:=z;simp only[Bool.and_eq_true]at this;simpa using this.1.1
   cases hx:x==n with
   |true=>
    have i:x=n:=by simpa using hx
    subst i;subst N;show mem_cons_self
   |false=>simp only[lookup_cons,hx]at h;show mem_cons_of_mem _ (G h j)
  .rw[if_neg z]at h
   cases hx:x==n with
   |true=>
    have i:x=n:=by simpa using hx
    subst i
    simp only[lookup_cons,hx]at h
    have e:k'=k:=Option.some.inj h
    subst e
    rcases j with j|j
    .exact absurd j (hc0 _ mem_cons_self)
    .subst j;show mem_cons_self
   |false=>simp only[lookup_cons,hx]at h;show mem_cons_of_mem _ (G h j)
end
section
structure Blk (X:Cx)(sc:Scope)(N:List Str)(src:List (Option Nat)):Prop where
 kind:sc.kind= .function
 nocell:∀ y∈sc.names,y.2≠ .cell
 names:∀ y∈sc.names,y.2= .local->sc.names.lookup y.1=some .local
 free:∀ y∈sc.names,y.2= .free->X.env.kindOf y.1=some .cell\/X.env.kindOf y.1=some .free
 fv:∀(j i:Nat),src[j]? =some (some i)->∃ x,N[j]? =some x/\X.N[i]? =some x/\sc.names.lookup x=some .free
 len:src.length=N.length
noncomputable def blk0 (src:List (Option Nat))(σ:St):St:=src.map fun o=>o.bind fun i=>(σ[i]?).join
noncomputable def d4 (X:Cx)(sc:Scope)(C:Addr)(N:List Str)(fp:List Addr)(s:Shared)(H:Hp):Cx where
 prog:=X.prog
 w:=X.w
 K:=X.K
 mg:=X.mg
 base:=X.base
 A:=X.A
 N:=N
 s₀:=s
 H₀:=H
 env:=compEnvC sc (clOf X.env.cells sc.names []) C X.env
 outer:=X.stack
 stack:=X.stack
 ex:=fp
 fn:=fun _=>false
 calm:=X.calm
 pn:=[]
 xe:=fun _ _=>False
section
variable {X:Cx}{pins:List (Addr×Obj)}{σ:St}{H:Hp}{s:Shared}
theorem Blk.cl {sc:Scope}{N:List Str}{src:List (Option Nat)}(B:Blk X sc N src)(ok:X.Ok):closureFor sc X.env=pure (clOf X.env.cells sc.names []):=
 zz1 fun x i j=>ok.has x.1 (B.free x i j)
theorem J5 {sc:Scope}{x:Str}{c:Addr}(h:(clOf X.env.cells sc.names []).lookup x=some c):X.env.cells.lookup x=some c:=
 E9 sc.names [] (fun y d e=>by simp at e) h
theorem yj9 {sc:Scope}{N:List Str}{src:List (Option Nat)}{fp:List Addr}{D C:Addr}{U:Heap}{t:Nat}{m:Str->Option Value}
  (B:Blk X sc N src) (I:Inv X pins σ H s) (Z:∀ b∈fp,FpOk X pins H b) (a3:∀ b∈fp,∃ o,s.heap.get? b=some o)
  (Y:∀ b o,s.heap.get? b=some o->U.get? b=some o) (hD:s.heap.objs.size<=D) (a7:U.get? D=some { cls:=.type "list",data:=.seq #[] 0 })
  (hn:U.Ns C m) (hC:s.heap.objs.size<=C) (a8:D≠C):
  Inv (d4 X sc C N fp s H) [] (blk0 src σ) (upd H D (.lst [])) { s with heap:=U,toks:=t }:=by
 have a5:H D=none:=I.hok.fresh hD
 have a6:H C=none:=I.hok.fresh hC
 have new:ObjOk X.prog X.w (upd H D (.lst [])) U D (.lst []):=⟨Nat.zero_le _,[],0,.nil,a7⟩
 have cC:∀ x c,X.env.cells.lookup x=some c->c≠C:=fun x c e z=>by
  let⟨v,q⟩:=I.cell x c e
  exact absurd (Nat.lt_of_lt_of_le q.lt (by rw(occs:=.all)[z];exact hC)) (Nat.lt_irrefl _)
 have cD:∀ x c,X.env.cells.lookup x=some c->c≠D:=fun x c e z=>by
  let⟨v,q⟩:=I.cell x c e
  exact absurd (Nat.lt_of_lt_of_le q.lt (by rw(occs:=.all)[z];exact hD)) (Nat.lt_irrefl _)
 refine⟨⟨I.ok.mod,?_,I.ok.glob,I.ok.blt,hC,fun x y c h1 h2=>?_,fun x G=>?_,fun x c h _=>(by cases h),I.ok.hd,I.ok.frames,.inl rfl,fun b j=>⟨?_,fun x c e=>?_⟩,I.bs,Nat.le_trans I.ok.bsz I.sz,fun b o e j=>?_,fun b j z=>?_,I.stack,I.stkFree⟩,
  rfl,I.bare,Un.laid Y hD a5,⟨m,hn,fun i x v e1 e2 e3=>?_⟩,fun x c e=>?_,?_,fun x c e=>?_,fun p hp=>?_,I.hok.laid Y hD new,?_⟩
 .show (relabel sc X.env).kind=_
  exact B.kind
 .exact I.ok.inj x y c (J5 h1) (J5 h2)
 .have hx':(∃ k,(relabel sc X.env).names.lookup x=some k/\(k= .cell\/k= .free)):=by
   rcases G with G|G
   .exact⟨_,G,.inl rfl⟩
   .exact⟨_,G,.inr rfl⟩
  let⟨k,e,a2⟩:=hx'
  have hm:=S4 B.nocell e a2
  let⟨c,a4⟩:=I.ok.has x (B.free _ hm rfl)
  exact Option.isSome_iff_exists.mp (M3 a4 sc.names [] hm)
 .let⟨o,e⟩:=a3 b j
  exact Nat.ne_of_lt (Nat.lt_of_lt_of_le (Heap.lt_size e) hC)
 .exact(Z b j).2.2.2.2.1 x c (J5 e)
 .rcases (Z b j).2.2.2.1 with z|z
  .exact I.ok.noex b o e z
  .exact absurd (Nat.lt_of_lt_of_le (Heap.lt_size e) (Nat.le_trans I.ok.bsz z)) (Nat.lt_irrefl _)
 .rcases List.mem_cons.mp (I.stkSub b z)with z|z
  .exact(Z b j).2.1 z
  .exact(Z b j).2.2.1 z
 .have e2':∃ k,src[i]? =some (some k)/\σ[k]? =some (some v):=by
   unfold blk0 at e2
   rw(occs:=.all)[getElem?_map]at e2
   cases q:src[i]? with
   |none=>rw(occs:=.all)[q]at e2;cases e2
   |some o=>
    rw(occs:=.all)[q]at e2
    cases o with
    |none=>cases e2
    |some k=>
     refine⟨k,rfl,?_⟩
     have e2:(σ[k]?).join=some v:=Option.some.inj e2
     cases qq:σ[k]? with
     |none=>rw(occs:=.all)[qq]at e2;cases e2
     |some z=>rw(occs:=.all)[qq]at e2;exact congrArg some e2
  let⟨k,ek,ev⟩:=e2'
  let⟨x',n1,n2,n3⟩:=B.fv i k ek
  have:x'=x:=by
   have e1:N[i]? =some x:=e1
   rw(occs:=.all)[n1]at e1;exact Option.some.inj e1
  subst this
  let⟨m0,a9,a1⟩:=I.loc
  have O:=B.free (x',.free) (PySem.mem_of_lookup n3) rfl
  let⟨u,r,l⟩:=a1 k x' v n2 ev (by rcases O with z|z;exact .inr (.inl z);exact .inr (.inr z))
  refine⟨u,r,.inr ⟨?_,?_⟩⟩
  .exact X1 n3
  .rcases l with⟨l,_⟩|⟨_,c,ec,z⟩
   .rcases O with q|q <;> (rw(occs:=.all)[q]at l;cases l)
   .let⟨c',ec'⟩:=Option.isSome_iff_exists.mp (M3 ec sc.names [] (PySem.mem_of_lookup n3))
    have:=J5 ec'
    rw(occs:=.all)[ec]at this;cases this
    let⟨o,ho,hd⟩:=z
    exact⟨c,ec',o,Y c o ho,hd⟩
 .let⟨v,o,ho,hd⟩:=I.cell x c (J5 e)
  exact⟨v,o,Y c o ho,hd⟩
 .show upd H D _ C=none
  rw(occs:=.all)[y4 (Ne.symm a8)];exact a6
 .rw(occs:=.all)[y4 (cD x c (J5 e))];exact I.freeC x c (J5 e)
 .exact absurd (show p∈([]:List (Addr×Obj))++[]from hp) (by simp)
 .show (blk0 src σ).length=N.length
  unfold blk0;rw(occs:=.all)[length_map];exact B.len
end
end
section
noncomputable abbrev noE:Value->Shared->Prop:=fun _ _=>False
theorem toE {α:Type}{t:Sem α}{Q i:α->Shared->Prop}{M:Model}{A:Around}{E:Value->Shared->Prop}{s:Shared}(h:wpAny M A t Q noE s)(j:∀ a s,Q a s->i a s):wpAny M A t i E s:=
 wpAny_mono h j fun _ _ x=>x.elim
noncomputable abbrev zo8 (ifs:List Expr)(env:Env):Sem Bool:=forIn ifs true fun c r=>if r=true then do let ok ← isTrue c env (eval c env);pure (ForInStep.yield ok)else pure (ForInStep.yield r)
theorem zo9 {prog:Program}{w:World}{A:Around}{R:Result->Shared->Prop}{s:Shared}{a3 i iter:Expr}{a1:List Expr}{scope:Scope}{pos:Pos}{it acc:Value}{env:Env}(I:Nat->Shared->Prop)
  (turn:∀ n s,I n s->wpAny (model prog w) A (pyNext it) (fun r G=>match r with
   |none=>R (.ok .next) G
   |some v=>wpAny (model prog w) A (letOwnedTupleGo i it v) (fun _ z=>wpAny (model prog w) A (assign i env v) (fun _ U=>
     wpAny (model prog w) A (zo8 a1 env) (fun ok j=>
      if ok=true then wpAny (model prog w) A (eval a3 env) (fun x O=>
       wpAny (model prog w) A (call (.builtin "list.append") [acc,x]) (fun _ N=>∃ m,m<n/\I m N) noE O) noE j
      else ∃ m,m<n/\I m j) noE U) noE z) noE G) noE s)
  (n:Nat) (h:I n s):
  codeAny (model prog w) A (.compLoop (.ListComp a3 [⟨i,iter,a1,0⟩] scope pos) 0 it acc env) R s:=by
 show codeAny_loop rfl I (fun n s hI=>?_) n h
 show wpAny _ A ((compTurn (.ListComp a3 [⟨i,iter,a1,0⟩] scope pos) 0 it acc env).onRaise (fun x=>do noteFrame x env;theTreesLotGoes x)) _ _ s
 show wpAny_noted ?_
 rw[compTurn_list]
 show wpAny_bind (wpAny_standAt (wpAny_bind (toE (turn n s hI) (fun r G Z=>?_))))
 cases r with
 |none=>show wpAny_pure Z
 |some v=>
  show wpAny_bind (toE Z fun _ z a2=>?_)
  show wpAny_bind (toE a2 (fun _ U a6=>wpAny_bind (toE a6 (fun ok j Y=>?_))))
  cases ok with
  |false=>show wpAny_pure ⟨rfl,Y⟩
  |true=>
   show wpAny_bind (wpAny_bind (toE Y (fun x O a5=>wpAny_bind (toE a5 (fun _ N a4=>wpAny_pure (wpAny_pure ⟨rfl,a4⟩))))))
noncomputable def PTs (X:Cx)(ifs:List Expr)(t:TT):Prop:=
 ∀(pins:List (Addr×Obj))(s:Shared)(σ:St)(H:Hp)(Q:Bool->Hp->Prop),Inv X pins σ H s->t σ H Q->wpAny (model X.prog X.w) X.A (zo8 ifs X.env) (TP X pins σ Q) X.xe s
noncomputable def tYes:TT:=fun _ H Q=>Q true H
theorem zv3 {X:Cx}:PTs X [] tYes:=fun pins s σ H Q I h=>wpAny_pure ⟨H,I,h⟩
theorem xv6 {X:Cx}{c:Expr}{t:TT}(h:PT X c t):PTs X [c] t:=fun pins s σ H Q I q=>wpAny_tests_one (h pins s σ H Q I q)
noncomputable def M5 (src:List (Option Nat))(wi:TI)(g:TG)(tc:TT)(te:TE):TE:=fun σ H Q=>wi σ H fun J H1=>∀ D,H1 D=none->∃ W:Nat->Nat->St->Hp->Prop,(∃ m,W 0 m (blk0 src σ) (upd H1 D (.lst [])))/\∀ i m σ' H',W i m σ' H'->
 (J.stop i H'/\Q (.ref D) H')\/(J.go i H'/\∃ N:St->Hp->Prop,(∀ σ2 H2,N σ2 H2->∃ m',m'<m/\W (i+1) m' σ2 H2)/\∀ x H2,J.yld i H' x H2->g x σ' H2 fun σ3 H3=>tc σ3 H3 fun b H4=>
  if b=true then te σ3 H4 fun y H5=>∃ xs,H5 D=some (.lst xs)/\xs.length<sizeLine/\N σ3 (upd H5 D (.lst (xs++[y])))else N σ3 H4)
section
variable {X:Cx}
theorem zx7 {sc:Scope}{N:List Str}{src:List (Option Nat)}{tg ac iter:Expr}{aa:List Expr}{pos:Pos}{g:TG}{tc:TT}{te:TE}{cx:Cx->Prop}(B:Blk X sc N src)(hc:∀ C fp s H,cx (d4 X sc C N fp s H))
  (hg:∀ C fp s H,PG (d4 X sc C N fp s H) tg g) (ht:∀ C fp s H,PTs (d4 X sc C N fp s H) aa tc) (he:∀ C fp s H,PE (d4 X sc C N fp s H) ac te)
  {pins:List (Addr×Obj)} {σ:St} {H:Hp} {s:Shared} {it:Addr} {fp:List Addr} {tn:Nat->Heap->Prop} {J:It} {Q:VK} {E:Value->Shared->Prop}
  (I:Inv X pins σ H s) (T:TurnC cx X.prog X.w X.K tg J fp it tn) (st:tn 0 s.heap) (hf:∀ b∈fp,FpOk X pins H b)
  (hW:∀ D,H D=none->∃ W:Nat->Nat->St->Hp->Prop,(∃ m,W 0 m (blk0 src σ) (upd H D (.lst [])))/\∀ i m a1 H',W i m a1 H'->
   (J.stop i H'/\Q (.ref D) H')\/(J.go i H'/\∃ N:St->Hp->Prop,(∀ ad H2,N ad H2->∃ m',m'<m/\W (i+1) m' ad H2)/\∀ x H2,J.yld i H' x H2->g x a1 H2 fun Y H3=>tc Y H3 fun b H4=>
    if b=true then te Y H4 fun y H5=>∃ xs,H5 D=some (.lst xs)/\xs.length<sizeLine/\N Y (upd H5 D (.lst (xs++[y])))else N Y H4))
  {RR:Value->Addr->Result->Shared->Prop}
  (ao:∀ D C H' s' m',Inv X pins σ H' s'->s'.heap.Ns C m'->H' C=none->s.heap.objs.size<=C->Q (.ref D) H'->RR (.ref D) C (.ok .next) s'):
  wpAny (model X.prog X.w) X.A (newList []) (fun acc a2=>wpAny (model X.prog X.w) X.A (newFunctionEnv sc X.env.globals (clOf X.env.cells sc.names []) [] X.env.qual none .none (some X.env)) (fun a7 ae=>
   codeAny (model X.prog X.w) X.A (.compStart (.ListComp ac [⟨tg,iter,aa,0⟩] sc pos) 0 (.ref it) acc { a7 with scope:=relabel sc X.env }) (RR acc a7.locals) ae) E a2) E s:=by
 show wpAny_newObj_type (wpAny_newFunctionEnv B.nocell (by intro y hy;simp at hy) (fun U Z G=>?_) B.kind)
 dsimp only at Z G ⊢
 generalize ab:s.heap.push { cls:=.type "list",dict:=none,data:=.seq ([]:List Value).toArray }=H2 at Z G ⊢
 have hC:H2.objs.size=s.heap.objs.size+1:=by rw[<-ab,Heap.size_push]
 have aj:s.heap.objs.size≠H2.objs.size:=by rw[hC];show Nat.ne_of_lt (Nat.lt_succ_self _)
 have a6:s.heap.objs.size<=H2.objs.size:=by rw[hC];show Nat.le_succ _
 have below:∀ b,b<s.heap.objs.size->b≠H2.objs.size:=fun b O=>by rw[hC];show Nat.ne_of_lt (Nat.lt_succ_of_lt O)
 have old:∀ b o,s.heap.get? b=some o->U.get? b=some o:=fun b o e=>G.extBut b o (below b (Heap.lt_size e)) (Heap.get?_push_of_some _ (ab ▸ Heap.get?_push_of_some _ e))
 have ai:U.get? s.heap.objs.size=some { cls:=.type "list",data:=.seq #[] 0 }:=G.extBut _ _ aj (Heap.get?_push_of_some _ (ab ▸ Heap.get?_push_size _ rfl))
 have ah:∀ b∈fp,∃ o,s.heap.get? b=some o:=fun b O=>by let⟨o,e,_⟩:=T.obj _ _ st b O;show⟨o,e⟩
 have ag:tn 0 U:=T.keep _ _ _ st fun b _ o e=>old b o e
 let⟨W,⟨m0,w0⟩,turn⟩:=hW s.heap.objs.size I.fresh
 have I1:=yj9 (t:=s.toks+([]:List (Str×Value)).length) B I hf ah old (Nat.le_refl _) ai Z a6 aj
 have a4:∀{H':Hp},(∀ b∈fp,H' b=none)->∀ b∈fp,FpOk (d4 X sc H2.objs.size N fp s H) [] H' b:=fun{H'} hn b O=>by
  let⟨f0,f1,f2,f3,f4,f5⟩:=hf b O
  show⟨hn b O,I1.ok.exf b O |>.1,I1.ok.exfs b O,.inl O,fun x c e=>f4 x c (J5 e),fun p hp=>absurd (show p∈([]:List (Addr×Obj))++[]from hp) (by simp)⟩
 have an:∀ b∈fp,b≠s.heap.objs.size:=fun b O z=>by
  let⟨o,e⟩:=ah b O
  show absurd (Heap.lt_size e) (by rw[z];show Nat.lt_irrefl _)
 have a5:∀ a2:Shared,a2={ s with heap:=U,toks:=s.toks+([]:List (Str×Value)).length }->
   codeAny (model X.prog X.w) X.A (.compLoop (.ListComp ac [⟨tg,iter,aa,0⟩] sc pos) 0 (.ref it) (.ref s.heap.objs.size) (compEnvC sc (clOf X.env.cells sc.names []) H2.objs.size X.env))
    (RR (.ref s.heap.objs.size) H2.objs.size) a2:=by
  rintro a2 rfl
  show zo9 (fun n s'=>∃ i a1 H',Inv (d4 X sc H2.objs.size N fp s H) [] a1 H' s'/\tn i s'.heap/\(∀ b∈fp,H' b=none)/\W i n a1 H') ?_ m0
   ⟨0,_,_,I1,ag,fun b O=>by rw[y4 (an b O)];show(hf b O).1,w0⟩
  rintro n s3 ⟨i,Y,H3,I3,af,ak,w3⟩
  rcases turn i n Y H3 w3 with⟨stop,qn⟩|⟨go,N',ap,step⟩
  .refine thn (T.done (d4 X sc H2.objs.size N fp s H) rfl rfl rfl (hc _ _ _ _) i [] s3 Y H3 noE I3 (a4 ak) af stop) fun r s4 ⟨hr,I4⟩=>?_
   subst hr
   let⟨m4,am,_⟩:=id I4.loc
   show ao _ _ H3 s4 m4 ?_ am I4.free a6 qn
   show I.call' (ch:=fp) I4.os I4.base I4.hok I4.bare fun b O=>⟨(hf b O).2.2.2.1,(hf b O).2.1,(hf b O).2.2.2.2.1,(hf b O).2.2.2.2.2⟩
  .refine thn (T.item (d4 X sc H2.objs.size N fp s H) rfl rfl rfl (hc _ _ _ _) i [] s3 Y H3 noE I3 (a4 ak) af go) fun r s4 ⟨u,hr,h4⟩=>?_
   subst hr
   show thn h4 fun _ s5 j=>?_
   let⟨x,H5,I5,r5,y5,a9,ar⟩:=j
   have as:=I5.pinned (a4 ar) (T.obj _ _ a9)
   have again:∀{s7:Shared}{a3:St}{H7:Hp},Inv (d4 X sc H2.objs.size N fp s H) ([]++zr8 fp s5.heap) a3 H7 s7->N' a3 H7->∃ m,m<n/\∃ i a1 H',Inv (d4 X sc H2.objs.size N fp s H) [] a1 H' s7/\tn i s7.heap/\(∀ b∈fp,H' b=none)/\W i m a1 H':=fun{s7 a3 H7} I7 n7=>by
    let⟨m',hm,w7⟩:=ap a3 H7 n7
    show⟨m',hm,i+1,a3,H7,I7.unpinned,T.keep _ _ _ a9 fun b O o e=>(I7.pin (b,o) (mem_append_right _ (mem_append_right _ (Q7 O e)))).1,fun b O=>?_,w7⟩
    let⟨o,e,d⟩:=T.obj _ _ a9 b O
    show(I7.pin (b,o) (mem_append_right _ (mem_append_right _ (Q7 O e)))).2.1
   show thn (hg _ _ _ _ _ s5 Y H5 x u _ as r5 (step x H5 y5)) fun _ s6 j=>?_
   let⟨a8,H6,I6,q6⟩:=j
   show thn (ht _ _ _ _ _ s6 a8 H6 _ I6 q6) fun ok s7 j=>?_
   let⟨H7,I7,q7⟩:=j
   cases ok with
   |false=>
    rw[if_neg Bool.false_ne_true]at q7 ⊢
    show again I7 q7
   |true=>
    rw[if_pos rfl]at q7 ⊢
    show thn (he _ _ _ _ _ s7 a8 H7 _ I7 q7) fun y s8 j=>?_
    let⟨v8,H8,I8,r8,q8⟩:=j
    let⟨xs,aq,al,n8⟩:=q8
    show thn (zq5 _ s8 a8 H8 (.ref s.heap.objs.size) [v8] (.ref s.heap.objs.size) [y] (fun _ H9=>H9=upd H8 s.heap.objs.size (.lst (xs++[v8]))) I8 rfl (.cons r8 .nil) ⟨_,xs,v8,rfl,rfl,aq,al,rfl⟩) fun _ s9 j=>?_
    let⟨v9,H9,I9,r9,q9⟩:=j
    subst q9
    show again I9 n8
 show codeAny_compStart_list (a5 _ rfl) (toE (T.self X.A 0 { s with heap:=U,toks:=s.toks+([]:List (Str×Value)).length } (fun v s'=>v= .ref it/\s'={ s with heap:=U,toks:=s.toks+([]:List (Str×Value)).length }) noE ag ⟨rfl,rfl⟩) fun v s' j=>?_)
 let⟨e1,e2⟩:=j
 subst e1;subst e2
 show a5 _ rfl
theorem Inv.letGo {pins:List (Addr×Obj)}{σ:St}{H:Hp}{s N:Shared}{C:Addr}{h':Heap}(I:Inv X pins σ H s)(i:∃ j H0,Inv X pins j H0 N)(G:N.heap.objs.size<=C)(hn:H C=none)(hs:Heap.SameBut C s.heap h'):Inv X pins σ H { s with heap:=h' }:=by
 let⟨j,H0,i⟩:=i
 show I.turned (t':=s.toks) (it:=C) (fun b o O e=>(hs.2 b O).trans e) hn (Nat.ne_of_gt (Nat.lt_of_lt_of_le i.lt G)) (.inr (Nat.le_trans i.sz G)) (fun x c e z=>?_) fun p hp z=>?_
 .let⟨v,q⟩:=i.cell x c e
  show absurd (Nat.lt_of_lt_of_le q.lt (by rw[z];show G)) (Nat.lt_irrefl _)
 .exact absurd (Nat.lt_of_lt_of_le (Heap.lt_size (i.pin p hp).1) (by rw[z];show G)) (Nat.lt_irrefl _)
theorem C2 {sc:Scope}{N:List Str}{src:List (Option Nat)}{tg O iter:Expr}{i:List Expr}{pos:Pos}{Z:TI}{g:TG}{tc:TT}{te:TE}(B:Blk X sc N src)(hc:X.calm=true)
  (hi:PI X tg iter Z) (hg:∀ C fp s H,PG (d4 X sc C N fp s H) tg g) (ht:∀ C fp s H,PTs (d4 X sc C N fp s H) i tc) (he:∀ C fp s H,PE (d4 X sc C N fp s H) O te)
  (hs:∀ x,foldedSetIterable iter X.env x=pure x:=by intro _;rfl):
  PE X (.ListComp O [⟨tg,iter,i,0⟩] sc pos) (M5 src Z g tc te):=by
 intro pins s σ H Q I h
 rw[eval_ListComp]
 show wpAny_comprehension_free (use:=none) rfl hs (B.cl I.ok) B.kind B.names (wpAny_mono (hi pins s σ H _ I h) (fun xv a2 z=>wpAny_mono z (fun a3 a1 j=>?_) fun _ _ e=>e) fun _ _ e=>e)
 let⟨it,fp,tn,J,H2,rfl,I2,T,U,f2,hW⟩:=j
 show zx7 (RR:=fun acc C=>compPost (model X.prog X.w) X.A X.xe none (EP X pins σ Q) acc C) (Q:=Q) B (fun _ _ _ _=>hc) hg ht he I2 T U f2 hW ?_
 intro D C H' s' m' I' hn hC Y q
 show⟨m',hn,fun a4 G=>⟨.ref D,H',I'.letGo ⟨_,_,I2⟩ Y hC G,rfl,q⟩⟩
theorem D9 {i:Nat}{y:Str}{Y:Pos}{sc:Scope}{N:List Str}{src:List (Option Nat)}{tg G iter:Expr}{j:List Expr}{pos O:Pos}{wi:TI}{g:TG}{tc:TT}{te:TE}(hN:X.N.Nodup)(a7:X.N[i]? =some y)(hx:Loc X.env.scope y)
  (B:Blk X sc N src) (hc:X.calm=true)
  (hi:PI X tg iter wi) (hg:∀ C fp s H,PG (d4 X sc C N fp s H) tg g) (ht:∀ C fp s H,PTs (d4 X sc C N fp s H) j tc) (he:∀ C fp s H,PE (d4 X sc C N fp s H) G te)
  (a5:swapsWith (.ListComp G [⟨tg,iter,j,0⟩] sc pos) (some (.Name y Y)) O.line X.env=pure true:=by rfl)
  (hs:∀ x,foldedSetIterable iter X.env x=pure x:=by intro _;rfl) (hf:X.fn y=true\/X.env.scope.names.lookup y=some .local:=by first|show .inl rfl|show .inr rfl|assumption):
  PS X (.Assign [.Name y Y] (.ListComp G [⟨tg,iter,j,0⟩] sc pos) O) (tAsg (M5 src wi g tc te) (X3 i)):=by
 intro pins s σ H Dn I h
 rw[exec_Assign_Name_used _ _ _ _ a5]
 show wpAny_bind (wpAny_standAt (wpAny_bind ?_))
 show wpAny _ _ (do let _ ← comprehension (.ListComp G [⟨tg,iter,j,0⟩] sc pos) sc X.env _ (newList []) false (eval iter X.env) (some (assign (.Name y Y) X.env))) _ _ s
 show wpAny_bind (wpAny_mono (wpAny_comprehension_free (use:=some (assign (.Name y Y) X.env)) (Q:=fun _ s'=>SP X pins Dn .next s') rfl hs (B.cl I.ok) B.kind B.names
  (wpAny_mono (hi pins s σ H _ I h) (fun xv ab a1=>wpAny_mono a1 (fun ad aa Z=>?_) fun _ _ e=>e) fun _ _ e=>e)) (fun _ s' hq=>wpAny_pure (wpAny_pure hq)) fun _ _ e=>e)
 let⟨it,fp,tn,J,H2,rfl,I2,T,a4,f2,hW⟩:=Z
 show zx7 (RR:=fun acc C=>compPost (model X.prog X.w) X.A X.xe (some (assign (.Name y Y) X.env)) (fun _ s'=>SP X pins Dn .next s') acc C) (Q:=fun x H1=>X3 i x σ H1 Dn.nx) B (fun _ _ _ _=>hc) hg ht he I2 T a4 f2 hW ?_
 intro D C H' s' m' I' hn hC U q
 show wpAny _ _ (assign (.Name y Y) X.env (.ref D)) _ _ _
 show wpAny_assign_Name (zs5 I' hN a7 hx (v:=.ref D) rfl (fun ac a9 a3=>?_) hf)
 let⟨a,a6,ha⟩:=a3
 have a8:C≠a:=fun z=>by
  rcases ha with ha|ha
  .have:=I2.lt;rw[<-ha,<-z]at this
   show absurd (Nat.lt_of_lt_of_le this U) (Nat.lt_irrefl _)
  .let⟨v,qv⟩:=I2.cell y a ha
   show absurd (Nat.lt_of_lt_of_le qv.lt (by rw[<-z];show U)) (Nat.lt_irrefl _)
 show⟨m',hn.sameBut a6 a8,fun ae a2=>⟨_,H',a9.letGo ⟨_,_,I2⟩ U hC a2,q⟩⟩
end
end
section
section
variable {X:Cx}{pins:List (Addr×Obj)}{σ:St}{H:Hp}{s:Shared}{h':Heap}
theorem Inv.turnedL {t':Nat}{fp:List Addr}(I:Inv X pins σ H s)(k:∀ b o,b∉fp->s.heap.get? b=some o->h'.get? b=some o)(j:∀ b∈fp,FpOk X pins H b):Inv X pins σ H { s with heap:=h',toks:=t' }:=by
 have G:∀ b u,H b=some u->b∉fp:=fun b u e z=>by rw[(j b z).1]at e;ext e
 show I.step (g':=s.gens) (d':=s.drawn) (ch:=fp) (fun b N=>⟨(j b N).2.2.2.1,(j b N).2.1,(j b N).2.2.2.2.1,(j b N).2.2.2.2.2⟩) (fun b o _ _ i e _=>k b o i e) (fun b o _ _ i e _=>⟨o.slots,k b o i e⟩) (fun _ _ _ _ n=>n)
  (fun b o i e=>⟨o,k b o i e⟩) (fun _ _ e=>e) (fun _ _ _ e=>e) (fun b ps e=>⟨#[],by rw[e];simp⟩) (fun m hm=>?_) (fun b u e=>?_) I.bare
 .let⟨o,es,ep,ho,r⟩:=hm
  show⟨o,es,ep,k _ o (fun z=>(j _ z).2.1 rfl) ho,r⟩
 .refine(I.hok b u e).stay (fun c v i q=>k c v ?_ q) (fun _ q=>q) fun _ _ q=>q
  rcases i with z|z
  .rw[z];show G b u e
  .exact G c _ z
theorem Inv.turnedN {t':Nat}{fp:List Addr}{T:Addr}{o:HO}(I:Inv X pins σ H s)(k:∀ b o,b∉fp->s.heap.get? b=some o->h'.get? b=some o)(G:∀ b∈fp,FpOk X pins H b)(O:s.heap.objs.size<=T)
  (new:ObjOk X.prog X.w (upd H T o) h' T o):Inv X pins σ (upd H T o) { s with heap:=h',toks:=t' }:=by
 have hn:H T=none:=I.hok.fresh O
 have ne:∀ b u,s.heap.get? b=some u->b≠T:=fun b u e z=>absurd (Nat.lt_of_lt_of_le (Heap.lt_size e) (by rw[z];show O)) (Nat.lt_irrefl _)
 have N:∀ b u,H b=some u->b∉fp:=fun b u e z=>by rw[(G b z).1]at e;ext e
 show I.step (g':=s.gens) (d':=s.drawn) (ch:=fp) (fun b j=>⟨(G b j).2.2.2.1,(G b j).2.1,(G b j).2.2.2.2.1,(G b j).2.2.2.2.2⟩) (fun b o _ _ i e _=>k b o i e) (fun b o _ _ i e _=>⟨o.slots,k b o i e⟩) (fun b o _ e n=>by rw[y4 (ne b o e)];show n)
  (fun b o i e=>⟨o,k b o i e⟩) (fun b xs e=>by rw[y4 (m6 e hn)];show e) (fun b _ _ e=>by rw[y4 (m6 e hn)];show e) (fun b ps e=>⟨#[],by rw[y4 (m6 e hn),e];simp⟩) (fun m hm=>?_) (fun b u e=>?_) I.bare
 .let⟨o,es,ep,ho,r⟩:=hm
  show⟨o,es,ep,k _ o (fun z=>(G _ z).2.1 rfl) ho,r⟩
 .by_cases j:b=T
  .subst j;rw[y3]at e;ext e;show new
  .rw[y4 j]at e
   show(I.hok b u e).stay (fun c v i q=>k c v ?_ q) (fun c q=>by rw[y4 (m6 q hn)];show q) fun c xs q=>by rw[y4 (m6 q hn)];show q
   rcases i with z|z
   .rw[z];show N b u e
   .exact N c _ z
end
structure Zip2 (z TI TO i1 i2:Addr):Prop where
 TIz:TI≠z
 TOz:TO≠z
 i1z:i1≠z
 i2z:i2≠z
 TITO:TI≠TO
 TIi1:TI≠i1
 TIi2:TI≠i2
 TOi1:TO≠i1
 TOi2:TO≠i2
 i12:i1≠i2
section
variable {X:Cx}
end
end
section
structure Zip3 (z TI TO i1 i2 i3:Addr):Prop where
 TIz:TI≠z
 TOz:TO≠z
 i1z:i1≠z
 i2z:i2≠z
 i3z:i3≠z
 TITO:TI≠TO
 TIi1:TI≠i1
 TIi2:TI≠i2
 TIi3:TI≠i3
 TOi1:TO≠i1
 TOi2:TO≠i2
 TOi3:TO≠i3
 i12:i1≠i2
 i13:i1≠i3
 i23:i2≠i3
structure Apart3 (z TO i1 i2 i3 l:Addr):Prop where
 lz:l≠z
 lTO:l≠TO
 l1:l≠i1
 l2:l≠i2
 l3:l≠i3
section
variable {prog:Program}{w:World}{A:Around}{E:Value->Shared->Prop}{s:Shared}
end
section
variable {X:Cx}
end
noncomputable def Ite (K:W.Frag)(l:Addr):It:=
 ⟨fun i H=>∃ xs x,SqL K H l xs/\xs[i]? =some x,
  fun i H v H'=>∃ t x,v= .ref t/\H t=none/\H'=upd H t (.tup [.int i,x])/\(∀ xs,SqL K H l xs->xs[i]? =some x),
  fun i H=>∃ xs,SqL K H l xs/\xs.length<=i⟩
theorem zs2 {P:Program}{w:World}{K:W.Frag}{es:List Expr}{tk:Nat}{tp:Pos}(e it l:Addr)(a7:e≠it):
  Turn P w K (.Tuple es tk tp) (Ite K l) [e,it] e (fun i h=>(∃ old,IsEnum h e it (i:Nat) old)/\h.IsListIter it l i) where
 mem:=by simp
 obj:=fun i h st b hb=>by
  let⟨⟨old,z⟩,⟨o1,e1,_,d1⟩⟩:=st
  simp only[mem_cons,not_mem_nil,or_false]at hb
  rcases hb with rfl|rfl
  .exact⟨_,z,fun v q=>by cases q⟩
  .exact⟨_,e1,fun v q=>by rw[d1]at q;cases q⟩
 keep:=fun i h h' st k=>by
  let⟨⟨old,z⟩,h1⟩:=st
  show⟨⟨old,k e (by simp) _ z⟩,h1.at fun o q=>k it (by simp) o q⟩
 item:=by
  intro X hP hw hK G i pins s σ H E I hf st hg
  subst hP hw hK
  let⟨xs,x,N,hx⟩:=hg
  let⟨Z,O,p1,_⟩:=I.list N
  let⟨u1,aa,a9⟩:=O.get hx
  let⟨⟨old,z⟩,h1⟩:=st
  show wpAny_pyNext_enum_item z h1 p1.isList (x:=u1) (by simpa using aa) a7 fun h' a1 a2 a3 a4 hk=>?_
  show⟨_,rfl,?_⟩
  show wpAny_letOwnedTupleGo_enum a1 fun Y a8 j=>?_
  have a6:e<s.heap.objs.size:=Heap.lt_size z
  have kk:∀ c o,c∉[e,it]->s.heap.get? c=some o->Y.get? c=some o:=fun c o G q=>by
   simp only[mem_cons,not_mem_nil,or_false,not_or]at G
   show j.extBut _ _ G.1 (hk c o G.1 G.2 q)
  have hT:Y.get? s.heap.objs.size=some { cls:=.type "tuple",data:=.seq #[.int i s.toks,u1] }:=j.extBut _ _ (Nat.ne_of_gt a6) a3
  have I2:Inv X pins σ (upd H s.heap.objs.size (.tup [.int i,x])) { s with heap:=Y,toks:=s.toks+1 }:=
   I.turnedN (T:=s.heap.objs.size) (o:=.tup [.int i,x]) kk hf (Nat.le_refl _) ⟨by show 2<=sizeLine;decide,[.int i s.toks,u1],.cons ⟨_,rfl⟩ (.cons a9 .nil),⟨_,hT,rfl,_,rfl⟩⟩
  show⟨.ref s.heap.objs.size,_,I2,rfl,⟨_,x,rfl,I.fresh,rfl,fun zs a5=>by rw[I.list_inj a5 N];show hx⟩,
   ⟨⟨_,a8⟩,a2.extBut j.extBut a7.symm⟩,fun c U=>?_⟩
  have ab:c<s.heap.objs.size:=by
   let⟨o1,e1,_⟩:=h1
   simp only[mem_cons,not_mem_nil,or_false]at U
   rcases U with rfl|rfl
   .exact a6
   .exact Heap.lt_size e1
  rw[y4 (Nat.ne_of_lt ab)]
  show(hf c U).1
 done:=by
  intro X hP hw hK G i pins s σ H E I hf st hg
  subst hP hw hK
  let⟨xs,N,hl⟩:=hg
  let⟨Z,O,p1,_⟩:=I.list N
  let⟨⟨old,z⟩,h1⟩:=st
  have ac:=O.length
  show wpAny_pyNext_enum_end (I.ok.hd G) z h1 p1.isList (by simp;lia) fun h' hk=>⟨rfl,?_⟩
  show I.turnedL (t':=s.toks) (fun c o G q=>by
   simp only[mem_cons,not_mem_nil,or_false,not_or]at G
   show hk c o G.2 q) hf
 self:=fun A i s Q E st h=>by
  let⟨⟨old,z⟩,h1⟩:=st
  have hT:s.TypeIs (.ref e) "enumerate":=⟨_,z,rfl⟩
  show wpAny_pyIter_slot hT F.slot_enumerate_iter (wpAny_call_entry F.slot_enumerate_iter hT F.entry_enumerate_iter ?_ (F.args_enumerate_iter_1 _))
  show wpAny _ _ (ret (.ref e)) _ _ s
  show wpAny_pure ⟨_,rfl,"enumerate",_,hT,F.slot_enumerate_next.lookup,h⟩
section
variable {X:Cx}
noncomputable def wx3 (K:W.Frag)(ta:TA):TI:=fun σ H R=>ta σ H fun vs H1=>∃ a xs,vs=[.ref a]/\SqL K H1 a xs/\R (Ite K a) H1
theorem zj5 {a:Expr}{ta:TA}{p pos:Pos}{es:List Expr}{tk:Nat}{tp:Pos}(hg:Gl X "enumerate")(hm:X.mg "enumerate"=none)(ha:PA X [a] ta)(hs:starEach [a] X.env=[(false,eval a X.env)]:=by rfl):
  PI X (.Tuple es tk tp) (.Call (.Name "enumerate" p) [a] [] pos) (wx3 X.K ta):=by
 intro pins s σ H R I h
 show Call_ (U7 I hg hm boot_enumerate (PyProof.Rows.callWith_type1 (thn (ha pos pins s σ H _ I h) fun us s1 i=>?_) hs rfl))
 let⟨vs,H1,G,r1,N⟩:=i
 let⟨l,xs,e,N,q⟩:=N
 subst e
 cases r1 with
 |cons r rr=>
  ext rr
  ext r
  let⟨U,Z,p1,_⟩:=G.list N
  show call_enumerate_list p1.isList fun h' O j a1 hk=>?_
  have I2:Inv X pins σ H1 { s1 with heap:=h',toks:=s1.toks }:=G.kept hk
  have hT:({ s1 with heap:=h' }:Shared).TypeIs (.ref (s1.heap.objs.size+1)) "enumerate":=⟨_,O,rfl⟩
  show(zs2 (P:=X.prog) (w:=X.w) (K:=X.K) (es:=es) (tk:=tk) (tp:=tp) (s1.heap.objs.size+1) s1.heap.objs.size l (Nat.ne_of_gt (Nat.lt_succ_self _))).self X.A 0 { s1 with heap:=h' } _ _ ⟨⟨_,O⟩,j⟩ ?_
  show⟨_,[s1.heap.objs.size+1,s1.heap.objs.size],_,_,H1,rfl,I2,zs2 _ _ l (Nat.ne_of_gt (Nat.lt_succ_self _)),⟨⟨_,O⟩,j⟩,fun b Y=>?_,q⟩
  have z:s1.heap.objs.size<=b:=by
   simp only[mem_cons,not_mem_nil,or_false]at Y
   rcases Y with rfl|rfl
   .exact Nat.le_succ _
   .exact Nat.le_refl _
  show G.fpOk z (G.hok.fresh z)
end
end
section
noncomputable def XAt (a C:Addr)(h:Heap):Prop:=∃ o vs,h.get? a=some o/\o.cls= .ref C/\o.data= .fields vs/\vs[2]? =some .none
noncomputable def xn9 (K:W.Frag)(C:Addr):Option Str:=match K.lookup C with
 |some ⟨_,_,.cls cd,_⟩=>some cd.name
 |_=>none
inductive D where
 |non|bl (b:Bool)|int (i:Int)|str (x:Str)|lst (ds:List D)|tup (ds:List D)|exc (c:Str)
 |ptr (a:Addr)|obj (c:Str) (ns:List Str) (ds:List D)
mutual
inductive Rep (K:W.Frag)(F:Hp):V->D->Prop
 |non:Rep K F .non .non
 |bl (b:Bool):Rep K F (.bl b) (.bl b)
 |int (i:Int):Rep K F (.int i) (.int i)
 |str (x:Str):Rep K F (.str x) (.str x)
 |lst {a:Addr} {xs:List V} {ds:List D}:SqL K F a xs->Reps K F xs ds->Rep K F (.ref a) (.lst ds)
 |tup {a:Addr} {xs:List V} {ds:List D}:SqT K F a xs->Reps K F xs ds->Rep K F (.ref a) (.tup ds)
 |exc {a C:Addr} {c:Str}:(W.nsIn K mainGlobals c=some (some (.ref C))/\xn9 K C=some c)->F a=some (.ext (XAt a C))->Rep K F (.ref a) (.exc c)
 |ptr (a:Addr):Rep K F (.ref a) (.ptr a)
 |obj {a dx C:Addr} {c:Str} {ns:List Str} {xs:List V} {ds:List D}:W.nsIn K mainGlobals c=some (some (.ref C))->ns.length=xs.length->F a=some (.ins C dx (ns.zip xs))->F dx=some (.own a)->Reps K F xs ds->Rep K F (.ref a) (.obj c ns ds)
inductive Reps (K:W.Frag)(F:Hp):List V->List D->Prop
 |nil:Reps K F [] []
 |cons {v:V} {d:D} {vs:List V} {ds:List D}:Rep K F v d->Reps K F vs ds->Reps K F (v::vs) (d::ds)
end
theorem Same.seqT {K:W.Frag}{H H':Hp}{a:Addr}{xs:List V}(e:Same H H')(h:SqT K H a xs):SqT K H' a xs:=by
 rcases h with (h|⟨o,h⟩)|h
 .exact .inl (.inl (e _ _ h))
 .exact .inl (.inr ⟨o,e _ _ h⟩)
 .exact .inr h
section
variable {K:W.Frag}{F F':Hp}
mutual
theorem Rep.mono (e:Same F F'):∀{v:V}{d:D},Rep K F v d->Rep K F' v d
 |_,_,.non=>.non
 |_,_,.bl b=>.bl b
 |_,_,.int i=>.int i
 |_,_,.str x=>.str x
 |_,_,.lst h r=>.lst (e.seq h) (Reps.mono e r)
 |_,_,.tup h r=>.tup (e.seqT h) (Reps.mono e r)
 |_,_,.exc h r=>.exc h (e _ _ r)
 |_,_,.ptr a=>.ptr a
 |_,_,.obj c l h h2 r=>.obj c l (e _ _ h) (e _ _ h2) (Reps.mono e r)
theorem Reps.mono (e:Same F F'):∀{vs:List V}{ds:List D},Reps K F vs ds->Reps K F' vs ds
 |_,_,.nil=>.nil
 |_,_,.cons h r=>.cons (Rep.mono e h) (Reps.mono e r)
end
theorem Reps.length:∀{vs:List V}{ds:List D},Reps K F vs ds->vs.length=ds.length
 |_,_,.nil=>rfl
 |_,_,.cons _ r=>congrArg (·+1) (Reps.length r)
theorem Reps.get:∀{vs:List V}{ds:List D}{i:Nat}{d:D},Reps K F vs ds->ds[i]? =some d->∃ v,vs[i]? =some v/\Rep K F v d
 |_,_,_,_,.nil,e=>by simp at e
 |_,_,0,_,.cons h _,e=>by simp at e;subst e;show⟨_,rfl,h⟩
 |_,_,i+1,d,.cons _ r,e=>by
  let⟨v,h1,h2⟩:=Reps.get (i:=i) (d:=d) r (by simpa using e)
  show⟨v,by simpa using h1,h2⟩
theorem Reps.get':∀{vs:List V}{ds:List D}{i:Nat}{v:V},Reps K F vs ds->vs[i]? =some v->∃ d,ds[i]? =some d/\Rep K F v d
 |_,_,_,_,.nil,e=>by simp at e
 |_,_,0,_,.cons h _,e=>by simp at e;subst e;show⟨_,rfl,h⟩
 |_,_,i+1,d,.cons _ r,e=>by
  let⟨v,h1,h2⟩:=Reps.get' (i:=i) (v:=d) r (by simpa using e)
  show⟨v,by simpa using h1,h2⟩
theorem Reps.append:∀{vs ws:List V}{ds es:List D},Reps K F vs ds->Reps K F ws es->Reps K F (vs++ws) (ds++es)
 |_,_,_,_,.nil,s=>s
 |_,_,_,_,.cons h r,s=>.cons h (Reps.append r s)
theorem Reps.take:∀{vs:List V}{ds:List D}(n:Nat),Reps K F vs ds->Reps K F (vs.take n) (ds.take n)
 |_,_,0,_=>.nil
 |_,_,_+1,.nil=>.nil
 |_,_,n+1,.cons h r=>.cons h (Reps.take n r)
theorem Reps.drop:∀{vs:List V}{ds:List D}(n:Nat),Reps K F vs ds->Reps K F (vs.drop n) (ds.drop n)
 |_,_,0,r=>r
 |_,_,_+1,.nil=>.nil
 |_,_,n+1,.cons _ r=>Reps.drop n r
theorem Reps.set {v:V}{d:D}(h:Rep K F v d):∀{vs:List V}{ds:List D}(i:Nat),Reps K F vs ds->Reps K F (vs.set i v) (ds.set i d)
 |_,_,_,.nil=>.nil
 |_,_,0,.cons _ r=>.cons h r
 |_,_,i+1,.cons q r=>.cons q (Reps.set h i r)
end
structure Ext (F H F' H':Hp):Prop where
 ff:Same F F'
 hh:Same H H'
 fh:Same F' H'
 new:∀ b,F b=none->F' b≠none->H b=none
 nf:∀ b o u,F' b=some (.frz o u)->F b=some (.frz o u)
theorem Ext.refl {F H:Hp}(h:Same F H):Ext F H F H:=⟨Same.refl _,Same.refl _,h,fun b e n=>absurd e n,fun _ _ _ z=>z⟩
theorem Ext.trans {F H F1 H1 F2 H2:Hp}(a:Ext F H F1 H1)(b:Ext F1 H1 F2 H2):Ext F H F2 H2:=
 ⟨a.ff.trans b.ff,a.hh.trans b.hh,b.fh,fun c e n=>by
  by_cases h:F1 c=none
  .exact a.hh.free (b.new c h n)
  .exact a.new c e h,fun c o u z=>a.nf c o u (b.nf c o u z)⟩
theorem Same.put {F H:Hp}{p:Addr}{o:HO}(h:Same F H)(hp:F p=none):Same F (upd H p o):=fun b u e=>by
 rw[y4 (m6 e hp)];show h b u e
theorem Same.put2 {F H:Hp}{p:Addr}{o:HO}(h:Same F H):Same (upd F p o) (upd H p o):=fun b u e=>by
 by_cases i:b=p
 .subst i;rw[y3]at e ⊢;show e
 .rw[y4 i]at e ⊢;show h b u e
theorem Ext.laid {F H:Hp}{p:Addr}{o:HO}(h:Same F H)(hp:H p=none)(j:∀ a u,o≠ .frz a u:=by intro _ _ z;ext z):Ext F H (upd F p o) (upd H p o):=
 ⟨(Same.refl F).put (h.free hp),(Same.refl H).put hp,h.put2,fun b e n=>by
  by_cases i:b=p
  .subst i;show hp
  .rw[y4 i]at n;show absurd e n,fun b a u z=>by
  by_cases i:b=p
  .subst i;rw[y3]at z;show absurd (Option.some.inj z) (j a u)
  .rw[y4 i]at z;show z⟩
theorem Ext.own {F H:Hp}{p:Addr}{o:HO}(h:Same F H)(hp:H p=none):Ext F H F (upd H p o):=
 ⟨Same.refl F,(Same.refl H).put hp,h.put (h.free hp),fun b e n=>absurd e n,fun _ _ _ z=>z⟩
theorem Ext.freeze {F H F' H':Hp}{p:Addr}{o:HO}(a:Ext F H F' H')(j:F' p=none)(hp:H p=none)(I:H' p=some o)(G:∀ a u,o≠ .frz a u:=by intro _ _ z;ext z):Ext F H (upd F' p o) H':=
 ⟨a.ff.put (a.ff.free j),a.hh,fun b u e=>by
   by_cases i:b=p
   .subst i;rw[y3]at e;ext e;show I
   .rw[y4 i]at e;show a.fh b u e,fun b e n=>by
   by_cases i:b=p
   .subst i;show hp
   .rw[y4 i]at n;show a.new b e n,fun b c u z=>by
   by_cases i:b=p
   .subst i;rw[y3]at z;show absurd (Option.some.inj z) (G c u)
   .rw[y4 i]at z;show a.nf b c u z⟩
inductive S where
 |sh (d:D)|own (ds:List D)|ob (p:Addr) (ds:List D)
noncomputable abbrev Ro:=List (Option S)
structure Rl (K:W.Frag)(F0 H0 F H:Hp)(σ:St)(ρ:Ro):Prop where
 ext:Ext F0 H0 F H
 len:σ.length=ρ.length
 sh:∀(i:Nat) d,ρ[i]? =some (some (.sh d))->∃ v,σ[i]? =some (some v)/\Rep K F v d
 own:∀(i:Nat) ds,ρ[i]? =some (some (.own ds))->∃ p xs,σ[i]? =some (some (.ref p))/\F p=none/\H p=some (.lst xs)/\Reps K F xs ds/\H0 p=none
 inj:∀(i j:Nat) p ds es,i≠j->ρ[i]? =some (some (.own ds))->ρ[j]? =some (some (.own es))->σ[i]? =some (some (.ref p))->σ[j]? =some (some (.ref p))->False
 ob:∀(i:Nat) p ds,ρ[i]? =some (some (.ob p ds))->σ[i]? =some (some (.ref p))/\F p=none/\H0 p=none/\∃ xs,H p=some (.lst xs)/\Reps K F xs ds
 obn:∀(i j:Nat) p ds es,ρ[i]? =some (some (.ob p ds))->ρ[j]? =some (some (.own es))->σ[j]? =some (some (.ref p))->False
 ob1:∀(i j:Nat) p q ds es,ρ[i]? =some (some (.ob p ds))->ρ[j]? =some (some (.ob q es))->i=j
noncomputable def nob:Option S->Prop
 |some (.ob _ _)=>False
 |_=>True
theorem t6 {ρ:Ro}{i j:Nat}{x:Option S}{p:Addr}{ds:List D}(e:(ρ.set i x)[j]? =some (some (.ob p ds)))(I:nob x:=by show True.intro):i≠j/\ρ[j]? =some (some (.ob p ds)):=by
 by_cases G:i=j
 .subst G
  rcases Nat.lt_or_ge i ρ.length with z|z
  .rw[getElem?_set_self z]at e;ext e;show I.elim
  .rw[getElem?_eq_none (by simpa using z)]at e;ext e
 .rw[getElem?_set_ne G]at e;show⟨G,e⟩
section
variable {K:W.Frag}{F0 H0 F H F' H':Hp}{σ:St}{ρ:Ro}
theorem Rl.fh (r:Rl K F0 H0 F H σ ρ):Same F H:=r.ext.fh
theorem Rl.go (r:Rl K F0 H0 F H σ ρ)(e:Ext F H F' H'):Rl K F0 H0 F' H' σ ρ where
 ext:=r.ext.trans e
 len:=r.len
 sh:=fun i d h=>let ⟨v,a,b⟩:=r.sh i d h;⟨v,a,b.mono e.ff⟩
 own:=fun i ds h=>by
  let⟨p,xs,a,b,c,d,z⟩:=r.own i ds h
  show⟨p,xs,a,?_,e.hh _ _ c,d.mono e.ff,z⟩
  cases q:F' p with
  |none=>rfl
  |some o=>have:=e.new p b (by rw[q];simp);rw[this]at c;ext c
 inj:=r.inj
 ob:=fun i p ds h=>by
  let⟨a,b,c,xs,d,z⟩:=r.ob i p ds h
  show⟨a,?_,c,xs,e.hh _ _ d,z.mono e.ff⟩
  cases q:F' p with
  |none=>rfl
  |some o=>have:=e.new p b (by rw[q];simp);rw[this]at d;ext d
 obn:=r.obn
 ob1:=r.ob1
theorem Rl.set (r:Rl K F0 H0 F H σ ρ){i:Nat}{v:V}{d:D}(h:Rep K F v d):Rl K F0 H0 F H (σ.set i (some v)) (ρ.set i (some (.sh d))) where
 ext:=r.ext
 len:=by simp[r.len]
 sh:=fun j d' e=>by
  by_cases I:i=j
  .subst I
   have G:i<ρ.length:=by
    rcases Nat.lt_or_ge i ρ.length with z|z
    .exact z
    .rw[getElem?_eq_none (by simpa using z)]at e;ext e
   rw[getElem?_set_self G]at e
   ext e
   show⟨v,by rw[getElem?_set_self (by rw[r.len];show G)],h⟩
  .rw[getElem?_set_ne I]at e ⊢
   show r.sh j d' e
 own:=fun j ds e=>by
  by_cases I:i=j
  .subst I
   have G:i<ρ.length:=by
    rcases Nat.lt_or_ge i ρ.length with z|z
    .exact z
    .rw[getElem?_eq_none (by simpa using z)]at e;ext e
   rw[getElem?_set_self G]at e
   ext e
  .rw[getElem?_set_ne I]at e ⊢
   show r.own j ds e
 inj:=fun j k p ds es O e1 e2 e3 U=>by
  have Y:i≠j:=fun z=>by
   subst z
   have G:i<ρ.length:=by
    rcases Nat.lt_or_ge i ρ.length with z|z
    .exact z
    .rw[getElem?_eq_none (by simpa using z)]at e1;ext e1
   rw[getElem?_set_self G]at e1;ext e1
  have N:i≠k:=fun z=>by
   subst z
   have G:i<ρ.length:=by
    rcases Nat.lt_or_ge i ρ.length with z|z
    .exact z
    .rw[getElem?_eq_none (by simpa using z)]at e2;ext e2
   rw[getElem?_set_self G]at e2;ext e2
  rw[getElem?_set_ne Y]at e1 e3
  rw[getElem?_set_ne N]at e2 U
  show r.inj j k p ds es O e1 e2 e3 U
 ob:=fun j p ds e=>by
  let⟨n,e⟩:=t6 e
  rw[getElem?_set_ne n];show r.ob j p ds e
 obn:=fun j k p ds es e1 e2 e3=>by
  let⟨n,e1⟩:=t6 e1
  have N:i≠k:=fun z=>by
   subst z
   have G:i<ρ.length:=by
    rcases Nat.lt_or_ge i ρ.length with z|z
    .exact z
    .rw[getElem?_eq_none (by simpa using z)]at e2;ext e2
   rw[getElem?_set_self G]at e2;ext e2
  rw[getElem?_set_ne N]at e2 e3
  show r.obn j k p ds es e1 e2 e3
 ob1:=fun j k p q ds es e1 e2=>r.ob1 j k p q ds es (t6 e1).2 (t6 e2).2
theorem Rl.setOwn (r:Rl K F0 H0 F H σ ρ){i:Nat}{p:Addr}{xs:List V}{ds:List D}(hF:F p=none)(hH:H p=some (.lst xs))(h:Reps K F xs ds)(h0:H0 p=none)
  (fr:∀(j:Nat) es,i≠j->ρ[j]? =some (some (.own es))->σ[j]? =some (some (.ref p))->False) (fo:∀(j:Nat) q es,ρ[j]? =some (some (.ob q es))->q≠p):Rl K F0 H0 F H (σ.set i (some (.ref p))) (ρ.set i (some (.own ds))) where
 ext:=r.ext
 len:=by simp[r.len]
 sh:=fun j d' e=>by
  by_cases Y:i=j
  .subst Y
   have G:i<ρ.length:=by
    rcases Nat.lt_or_ge i ρ.length with z|z
    .exact z
    .rw[getElem?_eq_none (by simpa using z)]at e;ext e
   rw[getElem?_set_self G]at e
   ext e
  .rw[getElem?_set_ne Y]at e ⊢
   show r.sh j d' e
 own:=fun j es e=>by
  by_cases Y:i=j
  .subst Y
   have G:i<ρ.length:=by
    rcases Nat.lt_or_ge i ρ.length with z|z
    .exact z
    .rw[getElem?_eq_none (by simpa using z)]at e;ext e
   rw[getElem?_set_self G]at e
   ext e
   show⟨p,xs,by rw[getElem?_set_self (by rw[r.len];show G)],hF,hH,h,h0⟩
  .rw[getElem?_set_ne Y]at e ⊢
   show r.own j es e
 inj:=fun j k q es I O e1 e2 e3 N=>by
  by_cases Z:i=j
  .subst Z
   rw[getElem?_set_ne O]at e2 N
   have G:i<σ.length:=by
    rcases Nat.lt_or_ge i σ.length with z|z
    .exact z
    .rw[getElem?_eq_none (by simpa using z)]at e3;ext e3
   rw[getElem?_set_self G]at e3
   ext e3
   show fr k I O e2 N
  .rw[getElem?_set_ne Z]at e1 e3
   by_cases U:i=k
   .subst U
    have G:i<σ.length:=by
     rcases Nat.lt_or_ge i σ.length with z|z
     .exact z
     .rw[getElem?_eq_none (by simpa using z)]at N;ext N
    rw[getElem?_set_self G]at N
    ext N
    show fr j es Z e1 e3
   .rw[getElem?_set_ne U]at e2 N
    show r.inj j k q es I O e1 e2 e3 N
 ob:=fun j q es e=>by
  let⟨n,e⟩:=t6 e
  rw[getElem?_set_ne n];show r.ob j q es e
 obn:=fun j k q es I e1 e2 e3=>by
  let⟨n,e1⟩:=t6 e1
  by_cases U:i=k
  .subst U
   have G:i<σ.length:=by
    rcases Nat.lt_or_ge i σ.length with z|z
    .exact z
    .rw[getElem?_eq_none (by simpa using z)]at e3;ext e3
   rw[getElem?_set_self G]at e3
   ext e3
   show fo j p es e1 rfl
  .rw[getElem?_set_ne U]at e2 e3
   show r.obn j k q es I e1 e2 e3
 ob1:=fun j k p q ds es e1 e2=>r.ob1 j k p q ds es (t6 e1).2 (t6 e2).2
theorem Rl.freeze (r:Rl K F0 H0 F H σ ρ){i:Nat}{ds:List D}(h:ρ[i]? =some (some (.own ds))):∃ F',Rl K F0 H0 F' H σ (ρ.set i (some (.sh (.lst ds))))/\Same F F':=by
 let⟨p,xs,a,b,c,d,z⟩:=r.own i ds h
 have I:i<ρ.length:=(List.getElem?_eq_some_iff.mp h).1
 have e:Ext F0 H0 (upd F p (.lst xs)) H:=r.ext.freeze b z c
 have ff:Same F (upd F p (.lst xs)):=(Same.refl F).put b
 show⟨upd F p (.lst xs),⟨e,by simp[r.len],fun j d' q=>?_,fun j es q=>?_,fun j k q es G U e1 e2 e3 e4=>?_,fun j q es e1=>?_,fun j k q es G e1 e2 e3=>?_,fun j k q q' es G e1 e2=>r.ob1 j k q q' es G (t6 e1).2 (t6 e2).2⟩,ff⟩
 .by_cases hj:i=j
  .subst hj
   rw[getElem?_set_self I]at q
   ext q
   show⟨_,a,.lst (SqL.of y3) (d.mono ff)⟩
  .rw[getElem?_set_ne hj]at q
   let⟨v,v1,v2⟩:=r.sh j d' q
   show⟨v,v1,v2.mono ff⟩
 .by_cases hj:i=j
  .subst hj
   rw[getElem?_set_self I]at q
   ext q
  .rw[getElem?_set_ne hj]at q
   let⟨Y,N,Z,b',c',d',z'⟩:=r.own j es q
   have hp:Y≠p:=fun w=>r.inj i j p ds es hj h q a (by rw[<-w];show Z)
   show⟨Y,N,Z,by rw[y4 hp];show b',c',d'.mono ff,z'⟩
 .have n1:i≠j:=fun w=>by subst w;rw[getElem?_set_self I]at e1;ext e1
  have O:i≠k:=fun w=>by subst w;rw[getElem?_set_self I]at e2;ext e2
  rw[getElem?_set_ne n1]at e1
  rw[getElem?_set_ne O]at e2
  show r.inj j k q es G U e1 e2 e3 e4
 .let⟨n,e1⟩:=t6 e1
  let⟨o1,o2,o3,zs,o4,o5⟩:=r.ob j q es e1
  have hp:q≠p:=fun w=>r.obn j i q es ds e1 h (by rw[w];show a)
  show⟨o1,by rw[y4 hp];show o2,o3,zs,o4,o5.mono ff⟩
 .let⟨n,e1⟩:=t6 e1
  have O:i≠k:=fun w=>by subst w;rw[getElem?_set_self I]at e2;ext e2
  rw[getElem?_set_ne O]at e2
  show r.obn j k q es G e1 e2 e3
theorem Rl.write (r:Rl K F0 H0 F H σ ρ){i:Nat}{p:Addr}{ys:List V}{ds es:List D}(h:ρ[i]? =some (some (.own ds)))(hp:σ[i]? =some (some (.ref p)))(hy:Reps K F ys es):
  Rl K F0 H0 F (upd H p (.lst ys)) σ (ρ.set i (some (.own es))):=by
 let⟨p',a1,a,b,c,d,z⟩:=r.own i ds h
 rw[hp]at a;ext a
 have hl:i<ρ.length:=(List.getElem?_eq_some_iff.mp h).1
 show⟨⟨r.ext.ff,r.ext.hh.put z,r.ext.fh.put b,r.ext.new,r.ext.nf⟩,by simp[r.len],fun j d' q=>?_,fun j fs q=>?_,fun j k q fs fs' N e1 e2 e3 e4=>?_,fun j q fs e1=>?_,fun j k q fs fs' e1 e2 e3=>?_,fun j k q q' es Y e1 e2=>r.ob1 j k q q' es Y (t6 e1).2 (t6 e2).2⟩
 .by_cases hj:i=j
  .subst hj
   rw[getElem?_set_self hl]at q
   ext q
  .rw[getElem?_set_ne hj]at q
   show r.sh j d' q
 .by_cases hj:i=j
  .subst hj
   rw[getElem?_set_self hl]at q
   ext q
   show⟨p,ys,hp,b,y3,hy,z⟩
  .rw[getElem?_set_ne hj]at q
   let⟨p2,I,a2,b2,c2,d2,z2⟩:=r.own j fs q
   have G:p2≠p:=fun w=>r.inj i j p ds fs hj h q hp (by rw[<-w];show a2)
   show⟨p2,I,a2,b2,by rw[y4 G];show c2,d2,z2⟩
 .have back:∀(m:Nat) U,(ρ.set i (some (S.own es)))[m]? =some (some (.own U))->∃ O,ρ[m]? =some (some (.own O)):=fun m U e=>by
   by_cases hm:i=m
   .subst hm;show⟨ds,h⟩
   .rw[getElem?_set_ne hm]at e;show⟨U,e⟩
  let⟨g1,e1⟩:=back j fs e1
  let⟨g2,e2⟩:=back k fs' e2
  show r.inj j k q g1 g2 N e1 e2 e3 e4
 .let⟨n,e1⟩:=t6 e1
  let⟨o1,o2,o3,zs,o4,o5⟩:=r.ob j q fs e1
  have G:q≠p:=fun w=>r.obn j i q fs ds e1 h (by rw[w];show hp)
  show⟨o1,o2,o3,zs,by rw[y4 G];show o4,o5⟩
 .let⟨n,e1⟩:=t6 e1
  by_cases Z:i=k
  .subst Z;show r.obn j i q fs ds e1 h e3
  .rw[getElem?_set_ne Z]at e2
   show r.obn j k q fs fs' e1 e2 e3
theorem Rl.writeB (r:Rl K F0 H0 F H σ ρ){i:Nat}{p:Addr}{ys:List V}{ds es:List D}(h:ρ[i]? =some (some (.ob p ds)))(hy:Reps K F ys es):
  Rl K F0 H0 F (upd H p (.lst ys)) σ (ρ.set i (some (.ob p es))):=by
 let⟨a,b,z,a1,c,d⟩:=r.ob i p ds h
 have Y:i<ρ.length:=(List.getElem?_eq_some_iff.mp h).1
 have G:∀(j:Nat) q fs,(ρ.set i (some (S.ob p es)))[j]? =some (some (.ob q fs))->j=i/\q=p/\fs=es:=fun j q fs e=>by
  by_cases I:i=j
  .subst I;rw[getElem?_set_self Y]at e;ext e;show⟨rfl,rfl,rfl⟩
  .rw[getElem?_set_ne I]at e;show absurd (r.ob1 i j p q ds fs h e) I
 have other:∀(j:Nat) fs,(ρ.set i (some (S.ob p es)))[j]? =some (some (.own fs))->i≠j/\ρ[j]? =some (some (.own fs)):=fun j fs e=>by
  by_cases I:i=j
  .subst I;rw[getElem?_set_self Y]at e;ext e
  .rw[getElem?_set_ne I]at e;show⟨I,e⟩
 show⟨⟨r.ext.ff,r.ext.hh.put z,r.ext.fh.put b,r.ext.new,r.ext.nf⟩,by simp[r.len],fun j d' q=>?_,fun j fs q=>?_,fun j k q fs fs' Z e1 e2 e3 N=>r.inj j k q fs fs' Z (other j fs e1).2 (other k fs' e2).2 e3 N,fun j q fs e1=>?_,fun j k q fs fs' e1 e2 e3=>?_,fun j k q q' fs fs' e1 e2=>?_⟩
 .by_cases I:i=j
  .subst I;rw[getElem?_set_self Y]at q;ext q
  .rw[getElem?_set_ne I]at q;show r.sh j d' q
 .let⟨n,e⟩:=other j fs q
  let⟨p2,O,a2,b2,c2,d2,z2⟩:=r.own j fs e
  have U:p2≠p:=fun w=>r.obn i j p ds fs h e (by rw[<-w];show a2)
  show⟨p2,O,a2,b2,by rw[y4 U];show c2,d2,z2⟩
 .let⟨e2,e3,N⟩:=G j q fs e1
  subst e2 e3 N
  show⟨a,b,z,ys,y3,hy⟩
 .let⟨N,e5,_⟩:=G j q fs e1
  subst N e5
  show r.obn j k q ds fs' h (other k fs' e2).2 e3
 .rw[(G j q fs e1).1,(G k q' fs' e2).1]
end
theorem Rep.n' {K:W.Frag}{F:Hp}{x:V}(r:Rep K F x .non):x= .non:=by ext r;rfl
theorem Rep.b' {K:W.Frag}{F:Hp}{x:V}{i:Bool}(r:Rep K F x (.bl i)):x= .bl i:=by ext r;rfl
theorem Rep.i' {K:W.Frag}{F:Hp}{x:V}{i:Int}(r:Rep K F x (.int i)):x= .int i:=by ext r;rfl
theorem Rep.s' {K:W.Frag}{F:Hp}{x:V}{i:Str}(r:Rep K F x (.str i)):x= .str i:=by ext r;rfl
theorem Rep.l' {K:W.Frag}{F:Hp}{x:V}{ds:List D}(r:Rep K F x (.lst ds)):∃ a xs,x= .ref a/\SqL K F a xs/\Reps K F xs ds:=by cases r with |lst s r=>show⟨_,_,rfl,s,r⟩
theorem Rep.t' {K:W.Frag}{F:Hp}{x:V}{ds:List D}(r:Rep K F x (.tup ds)):∃ a xs,x= .ref a/\SqT K F a xs/\Reps K F xs ds:=by cases r with |tup s r=>show⟨_,_,rfl,s,r⟩
end
section
noncomputable abbrev ME:=Ro->Option D
noncomputable abbrev ML:=Ro->Option (List D)
noncomputable abbrev MB:=Ro->Option Bool
noncomputable def TD (K:W.Frag)(m:ME):TE:=fun σ H Q=>∃ F0 H0 F ρ d,Rl K F0 H0 F H σ ρ/\m ρ=some d/\∀ v F' H',Ext F H F' H'->Rep K F' v d->Q v H'
noncomputable def TF (K:W.Frag)(m:ML):TE:=fun σ H Q=>∃ F0 H0 F ρ ds,Rl K F0 H0 F H σ ρ/\m ρ=some ds/\∀ p xs F' H',Ext F H F' H'->H p=none->F' p=none->H' p=some (.lst xs)->Reps K F' xs ds->Q (.ref p) H'
noncomputable def TB (K:W.Frag)(m:ML):TE:=fun σ H Q=>∃ F0 H0 F ρ ds,Rl K F0 H0 F H σ ρ/\m ρ=some ds/\∀ p xs F' H',Ext F H F' H'->SqL K H' p xs->Reps K F' xs ds->Q (.ref p) H'
noncomputable def TC (K:W.Frag)(c:MB):TT:=fun σ H Q=>∃ F0 H0 F ρ b,Rl K F0 H0 F H σ ρ/\c ρ=some b/\∀ F' H',Ext F H F' H'->Q b H'
noncomputable def TAs (K:W.Frag)(m:ML):TA:=fun σ H Q=>∃ F0 H0 F ρ ds,Rl K F0 H0 F H σ ρ/\m ρ=some ds/\∀ vs F' H',Ext F H F' H'->Reps K F' vs ds->Q vs H'
noncomputable def PD (X:Cx)(e:Expr)(m:ME):Prop:=PE X e (TD X.K m)
noncomputable def PF (X:Cx)(e:Expr)(m:ML):Prop:=PE X e (TF X.K m)
noncomputable def PB (X:Cx)(e:Expr)(m:ML):Prop:=PE X e (TB X.K m)
noncomputable def PC' (X:Cx)(e:Expr)(c:MB):Prop:=PT X e (TC X.K c)
noncomputable def PCw (X:Cx)(e:Expr)(c:MB):Prop:=PW X e (TC X.K c)
noncomputable def PAs (X:Cx)(es:List Expr)(m:ML):Prop:=PA X es (TAs X.K m)
section
variable {X:Cx}{a b c e:Expr}{ma mb:ME}{pos:Pos}
theorem PE.imp {t t':TE}(h:PE X e t)(i:∀ σ H Q,t' σ H Q->t σ H Q):PE X e t':=fun pins s σ H Q I q=>h pins s σ H Q I (i σ H Q q)
theorem PT.imp {t t':TT}(h:PT X e t)(i:∀ σ H Q,t' σ H Q->t σ H Q):PT X e t':=fun pins s σ H Q I q=>h pins s σ H Q I (i σ H Q q)
theorem PW.imp {t t':TT}(h:PW X e t)(i:∀ σ H Q,t' σ H Q->t σ H Q):PW X e t':=fun w pins s σ H Q I q=>h w pins s σ H Q I (i σ H Q q)
theorem PA.imp {es:List Expr}{t t':TA}(h:PA X es t)(i:∀ σ H Q,t' σ H Q->t σ H Q):PA X es t':=fun pos pins s σ H Q I q=>h pos pins s σ H Q I (i σ H Q q)
noncomputable def mvar (i:Nat):ME:=fun ρ=>match ρ[i]? with |some (some (.sh d))=>some d|_=>none
noncomputable def bvar (i:Nat):ML:=fun ρ=>match ρ[i]? with |some (some (.sh (.lst ds)))=>some ds|some (some (.own ds))=>some ds|some (some (.ob _ ds))=>some ds|_=>none
noncomputable def mc (d:D):ME:=fun _=>some d
theorem z4 (i:Nat){x:Str}{pos:Pos}(h:PE X (.Name x pos) (tVar i)):PD X (.Name x pos) (mvar i):=h.imp fun σ H Q j=>by
 let⟨F0,H0,F,ρ,d,r,e,q⟩:=j
 delta mvar at e
 split at e
 .rename_i h'
  ext e
  let⟨v,e1,e2⟩:=r.sh i _ h'
  show⟨v,e1,q v F H (.refl r.fh) e2⟩
 .cases e
theorem y7 (i:Nat){x:Str}{pos:Pos}(h:PE X (.Name x pos) (tVar i)):PB X (.Name x pos) (bvar i):=h.imp fun σ H Q j=>by
 let⟨F0,H0,F,ρ,d,r,e,q⟩:=j
 delta bvar at e
 split at e
 .rename_i ds h'
  ext e
  let⟨v,e1,e2⟩:=r.sh i _ h'
  cases e2 with
  |lst s G=>show⟨_,e1,q _ _ F H (.refl r.fh) (r.fh.seq s) G⟩
 .rename_i ds h'
  ext e
  let⟨p,xs,e1,e2,e3,z,_⟩:=r.own i _ h'
  show⟨_,e1,q _ _ F H (.refl r.fh) (SqL.of e3) z⟩
 .rename_i p ds h'
  ext e
  let⟨e1,e2,_,xs,e3,z⟩:=r.ob i p _ h'
  show⟨_,e1,q _ _ F H (.refl r.fh) (SqL.of e3) z⟩
 .cases e
theorem z8 {i:Int}{j pos}:PD X (.Constant (.int i) j pos) (mc (.int i)):=pe_int.imp fun σ H Q z=>by
 let⟨F0,H0,F,ρ,d,r,e,q⟩:=z
 ext e;show q _ F H (.refl r.fh) (.int i)
theorem yf9 {b:Bool}{j pos}:PD X (.Constant (.bool b) j pos) (mc (.bl b)):=pe_bl.imp fun σ H Q i=>by
 let⟨F0,H0,F,ρ,d,r,e,q⟩:=i
 ext e;show q _ F H (.refl r.fh) (.bl b)
noncomputable def mlst (m:ML):ME:=fun ρ=>(m ρ).map .lst
noncomputable def u6 (m:ME):ML:=fun ρ=>match m ρ with |some (.lst ds)=>some ds|_=>none
theorem i9 {m:ML}(h:PF X e m):PD X e (mlst m):=h.imp fun σ H Q i=>by
 let⟨F0,H0,F,ρ,d,r,e,q⟩:=i
 delta mlst at e
 cases hm:m ρ with
 |none=>rw[hm]at e;ext e
 |some ds=>
  rw[hm]at e;ext e
  show⟨F0,H0,F,ρ,ds,r,hm,fun p xs F' H' x hp j G z=>?_⟩
  show q _ (upd F' p (.lst xs)) H' (x.freeze j hp G) (.lst (SqL.of y3) (z.mono ((Same.refl F').put j)))
theorem R7 (h:PD X e ma):PB X e (u6 ma):=h.imp fun σ H Q i=>by
 let⟨F0,H0,F,ρ,d,r,e,q⟩:=i
 delta u6 at e
 split at e
 .rename_i ds hm
  ext e
  show⟨F0,H0,F,ρ,_,r,hm,fun v F' H' x j=>?_⟩
  cases j with
  |lst s z=>show q _ _ F' H' x (x.fh.seq s) z
 .cases e
theorem C1 {m:ML}(h:PF X e m):PB X e m:=h.imp fun σ H Q zQ=>by let⟨F0,H0,F,ρ,d,r,e,q⟩:=zQ;show ⟨F0,H0,F,ρ,d,r,e,fun p xs F' H' x hp z j i=>q p xs F' H' x (SqL.of j) i⟩
@[irreducible] noncomputable def m2 (f:D->D->Option D)(x y:ME):ME:=fun ρ=>(x ρ).bind fun d=>(y ρ).bind fun e=>f d e
noncomputable def OpD (K:W.Frag)(r:R2)(f:D->D->Option D):Prop:=∀(F H:Hp)(x y:V)(d e g:D)(Q:VK),Same F H->Rep K F x d->Rep K F y e->f d e=some g->(∀ v F' H',Ext F H F' H'->Rep K F' v g->Q v H')->r x y H Q
theorem xr5 {f:D->D->Option D}{ρ:Ro}{g:D}(h:m2 f ma mb ρ=some g):∃ d e,ma ρ=some d/\mb ρ=some e/\f d e=some g:=by
 delta m2 at h
 cases h1:ma ρ with
 |none=>rw[h1]at h;ext h
 |some d=>
  cases h2:mb ρ with
  |none=>rw[h1,h2]at h;ext h
  |some e=>rw[h1,h2]at h;show⟨d,e,rfl,rfl,h⟩
theorem op_d {r:R2}{f:D->D->Option D}(N:OpD X.K r f){σ:St}{H:Hp}{Q:VK}(h:TD X.K (m2 f ma mb) σ H Q):tOp r (TD X.K ma) (TD X.K mb) σ H Q:=by
 let⟨F0,H0,F,ρ,g,z,e,q⟩:=h
 let⟨d,G,h1,h2,O⟩:=xr5 e
 show⟨F0,H0,F,ρ,d,z,h1,fun x F1 H1 j r1=>⟨F0,H0,F1,ρ,G,z.go j,h2,fun y F2 H2 i r2=>?_⟩⟩
 show N F2 H2 x y d G g Q i.fh (r1.mono i.ff) r2 O fun v F' H' I=>q v F' H' ((j.trans i).trans I)
theorem yx3 {op:Operator}{r:R2}{f:D->D->Option D}(i:OpR X (binaryOp op) r)(j:OpD X.K r f)(ha:PD X a ma)(z:PD X b mb):PD X (.BinOp a op b pos) (m2 f ma mb):=(yf6 i ha z).imp fun _ _ _ h=>op_d j h
theorem xz6 {op:CmpOp}{r:R2}{f:D->D->Option D}(i:OpR X (compareOp op) r)(j:OpD X.K r f)(ha:PD X a ma)(z:PD X b mb)(hm:behindInMarks op b=false):PD X (.Compare a [op] [b] pos) (m2 f ma mb):=(zj7 i ha z hm).imp fun _ _ _ h=>op_d j h
noncomputable def v3 (m:ME):MB:=fun ρ=>match m ρ with |some (.bl b)=>some b|_=>none
theorem j7 {op:CmpOp}{r:R2}{f:D->D->Option D}(z:OpR X (compareOp op) r)(G:OpD X.K r f)(ha:PD X a ma)(I:PD X b mb)(hm:behindInMarks op b=false):PC' X (.Compare a [op] [b] pos) (v3 (m2 f ma mb)):=(zj1 z ha I hm).imp fun σ H Q i=>by
 let⟨F0,H0,F,ρ,g,j,e,q⟩:=i
 delta v3 at e
 split at e
 .rename_i k hk
  ext e
  show op_d G ⟨F0,H0,F,ρ,.bl g,j,hk,fun v F' H' x r=>?_⟩
  ext r
  show⟨_,rfl,q F' H' x⟩
 .cases e
noncomputable def int2 (g:Int->Int->Option D):D->D->Option D
 | .int i,.int j=>g i j
 |_,_=>none
theorem za5 {g:Int->Int->Option D}{d e w:D}(h:int2 g d e=some w):∃ i j,d= .int i/\e= .int j/\g i j=some w:=by
 cases d with
 |int i=>
  cases e with
  |int j=>show⟨i,j,rfl,rfl,h⟩
  |_=>ext h
 |_=>ext h
theorem zv6 {K:W.Frag}{g:Int->Int->V}{g':Int->Int->D}(z:∀ F i j,Rep K F (g i j) (g' i j)):OpD K (rI0 g) (int2 fun i j=>some (g' i j)):=by
 intro F H x y d e w Q s r1 r2 h q
 let⟨i,j,rfl,rfl,h'⟩:=za5 h
 clear h
 ext h'
 show⟨i,j,r1.i',r2.i',q _ F H (.refl s) (z F i j)⟩
theorem zc7 {K:W.Frag}{C:Int->Int->Prop}{ok:Int->Int->Bool}{g:Int->Int->V}{g':Int->Int->D}(I:∀ i j,ok i j=true->C i j)(G:∀ F i j,Rep K F (g i j) (g' i j)):
  OpD K (rI C g) (int2 fun i j=>if ok i j=true then some (g' i j)else none):=by
 intro F H x y d e w Q s r1 r2 h q
 let⟨i,j,rfl,rfl,h'⟩:=za5 h
 clear h
 by_cases z:ok i j=true
 .rw[if_pos z]at h'
  ext h'
  show⟨i,j,r1.i',r2.i',I i j z,q _ F H (.refl s) (G F i j)⟩
 .rw[if_neg z]at h'
  ext h'
noncomputable def subD:D->D->Option D:=int2 fun i j=>some (.int (i-j))
noncomputable def O1 (i j:Int):Bool:=(decide (-(2^64)<i)&&decide (i<2^64)) || (decide (-(2^64)<j)&&decide (j<2^64))
noncomputable def mulD:D->D->Option D:=int2 fun i j=>if O1 i j=true then some (.int (i*j))else none
noncomputable def zx3 (_ j:Int):Bool:=decide (0<j)&&decide (j<1073741824)
noncomputable def zo6:D->D->Option D:=int2 fun i j=>if zx3 i j=true then some (.int (i / j))else none
noncomputable def zu2 (_ j:Int):Bool:=decide (0<j)
noncomputable def modD:D->D->Option D:=int2 fun i j=>if zu2 i j=true then some (.int (i % j))else none
noncomputable def ys0 (i j:Int):Bool:=decide (0<=j)&&decide (j<=1000000)&&decide (i.natAbs<2^64)
noncomputable def powD:D->D->Option D:=int2 fun i j=>if ys0 i j=true then some (.int (i^j.toNat))else none
noncomputable def ltD:D->D->Option D:=int2 fun i j=>some (.bl (decide (i<j)))
noncomputable def leD:D->D->Option D:=int2 fun i j=>some (.bl (decide (i<=j)))
noncomputable def gtD:D->D->Option D:=int2 fun i j=>some (.bl (decide (j<i)))
noncomputable def geD:D->D->Option D:=int2 fun i j=>some (.bl (decide (j<=i)))
theorem zi0 {K:W.Frag}:OpD K (rI0 fun i j=>.int (i-j)) subD:=zv6 fun F i j=>.int _
theorem zi1 {K:W.Frag}:OpD K (rI CMul fun i j=>.int (i*j)) mulD:=zc7 (fun i j h=>by
 delta O1 at h
 simp only[Bool.or_eq_true,Bool.and_eq_true,decide_eq_true_eq]at h
 show h) fun F i j=>.int _
theorem ye3 {K:W.Frag}:OpD K (rI CDiv fun i j=>.int (i / j)) zo6:=zc7 (fun i j h=>by
 delta zx3 at h
 simp only[Bool.and_eq_true,decide_eq_true_eq]at h
 show h) fun F i j=>.int _
theorem xt7 {K:W.Frag}:OpD K (rI (fun _ j=>0<j) fun i j=>.int (i % j)) modD:=zc7 (fun i j h=>of_decide_eq_true h) fun F i j=>.int _
theorem xt6 {K:W.Frag}:OpD K (rI CPow fun i j=>.int (i^j.toNat)) powD:=zc7 (fun i j h=>by
 delta ys0 at h
 simp only[Bool.and_eq_true,decide_eq_true_eq]at h
 show⟨h.1.1,h.1.2,h.2⟩) fun F i j=>.int _
theorem zc8 {K:W.Frag}:OpD K (rI0 fun i j=>.bl (decide (i<j))) ltD:=zv6 fun F i j=>.bl _
theorem xi9 {K:W.Frag}:OpD K (rI0 fun i j=>.bl (decide (j<i))) gtD:=zv6 fun F i j=>.bl _
theorem P4 {K:W.Frag}:OpD K (rI0 fun i j=>.bl (decide (j<=i))) geD:=zv6 fun F i j=>.bl _
noncomputable def eqS:D->D->Option Bool
 | .non,.non=>some true| .non,.int _=>some false| .int _,.non=>some false| .non,.bl _=>some false| .bl _,.non=>some false| .non,.str _=>some false| .str _,.non=>some false
 | .int i,.int j=>some (i==j)| .bl i,.bl j=>some (i==j)| .str i,.str j=>some (i==j)
 | .int _,.str _=>some false| .str _,.int _=>some false| .bl _,.str _=>some false| .str _,.bl _=>some false
 |_,_=>none
noncomputable def eqSD (d e:D):Option D:=(eqS d e).map .bl
noncomputable def neSD (d e:D):Option D:=(eqS d e).map fun b=>.bl (!b)
noncomputable def scV:D->V
 | .bl b=>.bl b| .int i=>.int i| .str x=>.str x|_=>.non
theorem xq8 {d e:D}{k:Bool}(h:eqS d e=some k):scal (scV d) (scV e)=true/\decide (scV d=scV e)=k:=by
 cases d with
 |non=>ext e <;> ext h <;> show⟨rfl,rfl⟩
 |bl i=>
  ext e <;> ext h
  .exact⟨rfl,rfl⟩
  .exact⟨rfl,xx2⟩
  .exact⟨rfl,rfl⟩
 |int i=>
  ext e <;> ext h
  .exact⟨rfl,rfl⟩
  .exact⟨rfl,yk5⟩
  .exact⟨rfl,rfl⟩
 |str i=>
  ext e <;> ext h
  .exact⟨rfl,rfl⟩
  .exact⟨rfl,rfl⟩
  .exact⟨rfl,rfl⟩
  .exact⟨rfl,yk4⟩
 |_=>ext h
theorem yb4 {d e:D}{k:Bool}(h:eqS d e=some k){K:W.Frag}{F:Hp}{x:V}(r:Rep K F x d):x=scV d:=by
 cases d with
 |non=>show r.n'
 |bl i=>show r.b'
 |int i=>show r.i'
 |str i=>show r.s'
 |_=>ext h
theorem yk3 (d e:D)(k:Bool)(h:eqS d e=some k):∃ k',eqS e d=some k':=by
 cases d with
 |non=>ext e <;> ext h <;> show⟨_,rfl⟩
 |bl i=>ext e <;> ext h <;> show⟨_,rfl⟩
 |int i=>ext e <;> ext h <;> show⟨_,rfl⟩
 |str i=>ext e <;> ext h <;> show⟨_,rfl⟩
 |_=>ext h
theorem a8 {K:W.Frag}:OpD K rEq eqSD:=by
 intro F H x y d e w Q s r1 r2 h q
 delta eqSD at h
 cases hk:eqS d e with
 |none=>rw[hk]at h;ext h
 |some k=>
  rw[hk]at h
  ext h
  let⟨k',i⟩:=yk3 d e k hk
  let⟨h1,h2⟩:=xq8 hk
  rw[yb4 hk r1,yb4 i r2]
  show⟨h1,?_⟩
  rw[h2]
  show q _ F H (.refl s) (.bl _)
noncomputable def m1 (f:D->Option D)(x:ME):ME:=fun ρ=>(x ρ).bind f
noncomputable def negD:D->Option D
 | .int i=>some (.int (-i))
 |_=>none
theorem xr6 {f:D->Option D}{ρ:Ro}{g:D}(h:m1 f ma ρ=some g):∃ d,ma ρ=some d/\f d=some g:=by
 delta m1 at h
 cases h1:ma ρ with
 |none=>rw[h1]at h;ext h
 |some d=>rw[h1]at h;show⟨d,rfl,h⟩
theorem N4 (ha:PD X a ma):PD X (.UnaryOp .USub a pos) (m1 negD ma):=(wz1 xm3 ha).imp fun σ H Q i=>by
 let⟨F0,H0,F,ρ,g,z,e,q⟩:=i
 let⟨d,h1,h2⟩:=xr6 e
 show⟨F0,H0,F,ρ,d,z,h1,fun x F1 H1 j r1=>?_⟩
 ext r1 <;> first| (ext h2;done)|skip
 ext h2
 show⟨_,rfl,q _ F1 H1 j (.int _)⟩
noncomputable def mand (x y:ME):ME:=fun ρ=>match x ρ with |some (.bl true)=>y ρ|some (.bl false)=>some (.bl false)|_=>none
theorem xi4 {op}(h:PD X a ma):PD X (.BoolOp op [a] pos) ma:=xz3 h
theorem xi5 {rest:List Expr}(ha:PD X a ma)(I:PD X (.BoolOp .And (b::rest) pos) mb):PD X (.BoolOp .And (a::b::rest) pos) (mand ma mb):=(xz4 ha I).imp fun σ H Q i=>by
 let⟨F0,H0,F,ρ,g,z,e,q⟩:=i
 delta mand at e
 split at e
 .rename_i h1
  show⟨F0,H0,F,ρ,_,z,h1,fun x F1 H1 j r1=>?_⟩
  ext r1
  show⟨true,rfl,?_⟩
  show iteT ?_
  show⟨F0,H0,F1,ρ,g,z.go j,e,fun y F2 H2 G r2=>q y F2 H2 (j.trans G) r2⟩
 .rename_i h1
  ext e
  show⟨F0,H0,F,ρ,_,z,h1,fun x F1 H1 j r1=>?_⟩
  ext r1
  show⟨false,rfl,?_⟩
  show iteF ?_
  show q _ F1 H1 j (.bl _)
 .cases e
noncomputable def truD:D->Option Bool
 | .non=>some false
 | .bl b=>some b
 | .int i=>some (i != 0)
 | .str y=>if y.length<=sizeLine then some ((y.length:Int) != 0)else none
 | .lst ds=>some (!ds.isEmpty)
 | .tup ds=>some (!ds.isEmpty)
 | .exc _=>none
 | .ptr _=>none
 | .obj _ _ _=>none
noncomputable def mtru (m:ME):MB:=fun ρ=>(m ρ).bind truD
theorem J3 {K:W.Frag}{F:Hp}{vs:List V}{ds:List D}(h:Reps K F vs ds):(!ds.isEmpty)= !vs.isEmpty:=by ext h <;> rfl
theorem yr8 (ha:PD X a ma)(N:∀ i,isTrue a X.env i=(do let v ← i;standAt a.pos;holding [v] (truthy v)):=by intro _;rfl):PC' X a (mtru ma):=(zd6 ha N).imp fun σ H Q j=>by
 let⟨F0,H0,F,ρ,b,I,e,q⟩:=j
 delta mtru at e
 cases h1:ma ρ with
 |none=>rw[h1]at e;ext e
 |some d=>
  rw[h1]at e
  show⟨F0,H0,F,ρ,d,I,h1,fun x F1 H1 z r1=>⟨b,?_,q F1 H1 z⟩⟩
  cases r1 with
  |non=>ext e;rfl
  |bl=>ext e;rfl
  |int=>ext e;rfl
  |str x=>
   have e:(if x.length<=sizeLine then some ((x.length:Int) != 0)else none)=some b:=e
   split at e
   .rename_i hz
    ext e
    show⟨hz,rfl⟩
   .cases e
  |lst s G=>ext e;show .inl ⟨_,z.fh.seq s,J3 G⟩
  |tup s G=>ext e;show .inr (.inl ⟨_,z.fh.seqT s,J3 G⟩)
  |exc=>ext e
  |ptr=>ext e
  |obj=>ext e
variable {ca cb:MB}
noncomputable def cor (x y:MB):MB:=fun ρ=>match x ρ with |some true=>some true|some false=>y ρ|none=>none
noncomputable def cnot (x:MB):MB:=fun ρ=>(x ρ).map (!·)
theorem pc_w (h:PCw X a ca):PC' X a ca:=h.pt
theorem xz0 (h:PC' X a ca):PCw X (.BoolOp .Or [a] pos) ca:=xj6 h
theorem yr6 {rest:List Expr}(ha:PC' X a ca)(I:PCw X (.BoolOp .Or (b::rest) pos) cb):PCw X (.BoolOp .Or (a::b::rest) pos) (cor ca cb):=(wz0 ha I).imp fun σ H Q i=>by
 let⟨F0,H0,F,ρ,g,z,e,q⟩:=i
 delta cor at e
 split at e
 .rename_i h1
  ext e
  show⟨F0,H0,F,ρ,_,z,h1,fun F1 H1 j=>?_⟩
  show iteT ?_
  show q F1 H1 j
 .rename_i h1
  show⟨F0,H0,F,ρ,_,z,h1,fun F1 H1 j=>?_⟩
  show iteF ?_
  show⟨F0,H0,F1,ρ,g,z.go j,e,fun F2 H2 G=>q F2 H2 (j.trans G)⟩
 .cases e
theorem xz7 (ha:PC' X a ca):PC' X (.UnaryOp .Not a pos) (cnot ca):=(xz1 ha).imp fun σ H Q i=>by
 let⟨F0,H0,F,ρ,g,z,e,q⟩:=i
 delta cnot at e
 cases h1:ca ρ with
 |none=>rw[h1]at e;ext e
 |some k=>
  rw[h1]at e;ext e
  show⟨F0,H0,F,ρ,k,z,h1,fun F1 H1 j=>q F1 H1 j⟩
noncomputable def anil:ML:=fun _=>some []
@[irreducible] noncomputable def z5 (x:ME)(r:ML):ML:=fun ρ=>(x ρ).bind fun d=>(r ρ).bind fun ds=>some (d::ds)
theorem zx8 {r:ML}{ρ:Ro}{i:List D}(h:z5 ma r ρ=some i):∃ d ds,ma ρ=some d/\r ρ=some ds/\i=d::ds:=by
 delta z5 at h
 cases h1:ma ρ with
 |none=>rw[h1]at h;ext h
 |some d=>
  cases h2:r ρ with
  |none=>rw[h1,h2]at h;ext h
  |some ds=>rw[h1,h2]at h;ext h;show⟨d,ds,rfl,rfl,rfl⟩
theorem z3:PAs X [] anil:=pa_nil.imp fun σ H Q i=>by
 let⟨F0,H0,F,ρ,g,j,e,q⟩:=i
 ext e;show q [] F H (.refl j.fh) .nil
theorem z0 {es:List Expr}{m:ML}(ha:PD X a ma)(hr:PAs X es m)(hs:starEach (a::es) X.env=(false,eval a X.env)::starEach es X.env:=by rfl):PAs X (a::es) (z5 ma m):=(j4 ha hr hs).imp fun σ H Q i=>by
 let⟨F0,H0,F,ρ,g,G,e,q⟩:=i
 let⟨d,ds,h1,h2,rfl⟩:=zx8 e
 show⟨F0,H0,F,ρ,d,G,h1,fun x F1 H1 z r1=>⟨F0,H0,F1,ρ,ds,G.go z,h2,fun xs F2 H2 j r2=>?_⟩⟩
 show q _ F2 H2 (z.trans j) (.cons (r1.mono j.ff) r2)
@[irreducible] noncomputable def w8 (m:ML):ML:=fun ρ=>match m ρ with |some ds=>if ds.length<=sizeLine then some ds else none|none=>none
theorem zy3 {m:ML}{ρ:Ro}{i:List D}(h:w8 m ρ=some i):m ρ=some i/\i.length<=sizeLine:=by
 delta w8 at h
 cases h1:m ρ with
 |none=>rw[h1]at h;ext h
 |some ds=>
  rw[h1]at h
  have h:(if ds.length<=sizeLine then some ds else none)=some i:=h
  split at h
  .rename_i hz;ext h;show⟨rfl,hz⟩
  .cases h
theorem v5 {es:List Expr}{m:ML}(h:PAs X es m):PF X (.List es pos) (w8 m):=(ys5 h).imp fun σ H Q i=>by
 let⟨F0,H0,F,ρ,g,z,e,q⟩:=i
 let⟨h1,h2⟩:=zy3 e
 show⟨F0,H0,F,ρ,g,z,h1,fun vs F1 H1 j r1=>⟨by rw[r1.length];show h2,fun p hp=>?_⟩⟩
 show q p vs F1 _ (j.trans (Ext.own j.fh hp)) (j.hh.free hp) (j.fh.free hp) y3 r1
noncomputable def mtup (m:ML):ME:=fun ρ=>(w8 m ρ).map .tup
theorem zy7 {es:List Expr}{m:ML}{k:Nat}(h:PAs X es m):PD X (.Tuple es k pos) (mtup m):=(xi2 h).imp fun σ H Q i=>by
 let⟨F0,H0,F,ρ,g,z,e,q⟩:=i
 delta mtup at e
 cases h1:w8 m ρ with
 |none=>rw[h1]at e;ext e
 |some ds=>
  rw[h1]at e;ext e
  let⟨h1,h2⟩:=zy3 h1
  show⟨F0,H0,F,ρ,ds,z,h1,fun vs F1 H1 j r1=>⟨by rw[r1.length];show h2,fun p hp=>?_⟩⟩
  show q _ _ _ (j.trans (Ext.laid j.fh hp)) (.tup (SqT.of y3) (r1.mono ((Same.refl F1).put (j.fh.free hp))))
noncomputable def mlen (m:ML):ME:=fun ρ=>(m ρ).map fun ds=>.int ds.length
@[irreducible] noncomputable def mix (m:ML)(i:ME):ME:=fun ρ=>(m ρ).bind fun ds=>(i ρ).bind fun| .int k=>atI ds k|_=>none
theorem yy0 {K:W.Frag}{F:Hp}{vs:List V}{ds:List D}{k:Int}{d:D}(r:Reps K F vs ds)(h:atI ds k=some d):∃ v,atI vs k=some v/\Rep K F v d:=by
 delta atI at h ⊢
 rw[r.length]
 cases q:ixN ds.length k with
 |none=>rw[q]at h;ext h
 |some j=>
  rw[q]at h
  show r.get h
theorem m9 {G:ML}(ha:PB X a G)(O:PD X b mb)(hs:zf8 b:=by show fun _ _=>rfl):PD X (.Subscript a b pos) (mix G mb):=(xu6 zh7 ha O hs).imp fun σ H Q j=>by
 let⟨F0,H0,F,ρ,g,N,e,q⟩:=j
 delta mix at e
 cases h1:G ρ with
 |none=>rw[h1]at e;ext e
 |some ds=>
  cases h2:mb ρ with
  |none=>rw[h1,h2]at e;ext e
  |some i=>
   rw[h1,h2]at e
   show⟨F0,H0,F,ρ,ds,N,h1,fun p xs F1 H1 I s1 r1=>⟨F0,H0,F1,ρ,i,N.go I,h2,fun y F2 H2 z r2=>?_⟩⟩
   ext r2 <;> first| (ext e;done)|skip
   rename_i k
   let⟨v,Y,U⟩:=yy0 (r1.mono z.ff) (show atI ds k=some g from e)
   show⟨p,xs,k,v,rfl,rfl,z.hh.seq s1,Y,q v F2 H2 (I.trans z) U⟩
theorem yb6 {K:W.Frag}{F:Hp}{vs:List V}{ds:List D}(r:Reps K F vs ds)(lo hi:Option Int):Reps K F (cutV vs lo hi) ((ds.drop (HT.sIx ds.length 0 lo)).take (HT.sIx ds.length ds.length hi-HT.sIx ds.length 0 lo)):=by
 delta cutV
 rw[r.length]
 show(r.drop _).take _
noncomputable def cutL (ds:List D)(lo hi:Option Int):List D:=(ds.drop (HT.sIx ds.length 0 lo)).take (HT.sIx ds.length ds.length hi-HT.sIx ds.length 0 lo)
noncomputable abbrev MO:=Ro->Option (Option Int)
noncomputable def zv7:MO:=fun _=>some none
noncomputable def G1 (m:ME):MO:=fun ρ=>(m ρ).bind fun| .int i=>some (some i)|_=>none
noncomputable def TOs (K:W.Frag)(m:MO):TO:=fun σ H Q=>∃ F0 H0 F ρ i,Rl K F0 H0 F H σ ρ/\m ρ=some i/\∀ F' H',Ext F H F' H'->Q i H'
noncomputable def POs (X:Cx)(e:Option Expr)(m:MO):Prop:=PO X e (TOs X.K m)
theorem PO.imp {e:Option Expr}{t t':TO}(h:PO X e t)(i:∀ σ H Q,t' σ H Q->t σ H Q):PO X e t':=fun pins s σ H Q I q=>h pins s σ H Q I (i σ H Q q)
theorem F8:POs X none zv7:=PO.imp xu3 fun σ H Q j=>by let⟨F0,H0,F,ρ,i,z,e,q⟩:=j;ext e;show q F H (.refl z.fh)
theorem F7 (h:PD X a ma):POs X (some a) (G1 ma):=PO.imp (xu2 h) fun σ H Q j=>by
 let⟨F0,H0,F,ρ,i,G,e,q⟩:=j
 delta G1 at e
 cases h1:ma ρ with
 |none=>rw[h1]at e;ext e
 |some d=>
  rw[h1]at e
  show⟨F0,H0,F,ρ,d,G,h1,fun v F1 H1 z r1=>?_⟩
  ext r1 <;> first| (ext e;done)|skip
  ext e
  show⟨_,rfl,q F1 H1 z⟩
@[irreducible] noncomputable def mcut (m:ML)(lo hi:MO):ML:=fun ρ=>(m ρ).bind fun ds=>(lo ρ).bind fun l=>(hi ρ).bind fun h=>some (cutL ds l h)
theorem xi0 {N:ML}{lo hi:Option Expr}{l h:MO}(ha:PB X a N)(hl:POs X lo l)(hh:POs X hi h)(Z:PE X e (tSl (rSlL X.K) (TB X.K N) (TOs X.K l) (TOs X.K h))):PF X e (mcut N l h):=Z.imp fun σ H Q G=>by
 let⟨F0,H0,F,ρ,g,U,e,q⟩:=G
 delta mcut at e
 cases h1:N ρ with
 |none=>rw[h1]at e;ext e
 |some ds=>
  cases h2:l ρ with
  |none=>rw[h1,h2]at e;ext e
  |some i=>
   cases h3:h ρ with
   |none=>rw[h1,h2,h3]at e;ext e
   |some j=>
    rw[h1,h2,h3]at e;ext e
    show⟨F0,H0,F,ρ,ds,U,h1,fun p xs F1 H1 O s1 r1=>⟨F0,H0,F1,ρ,i,U.go O,h2,fun F2 H2 I=>⟨F0,H0,F2,ρ,j,(U.go O).go I,h3,fun F3 H3 z=>?_⟩⟩⟩
    show⟨p,xs,rfl,z.hh.seq (I.hh.seq s1),fun w hw=>?_⟩
    have Y:=(O.trans I).trans z
    show q w _ F3 _ (Y.trans (Ext.own z.fh hw)) (Y.hh.free hw) (z.fh.free hw) y3 (yb6 (r1.mono (I.ff.trans z.ff)) i j)
end
end
section
theorem zp7 (l:Addr)(j:Array Value)(n:Nat)(b:Addr)(i:Array Value)(I:Nat)(Y G:Option Addr)(sl z:Array (Option Value))(O:j.size+i.size<=sizeLine):
  Meets (Builtin.«list.__add__» ⟨[.ref l,.ref b],[]⟩) (fun _ R s=>s.heap.get? l=some { cls:=.type "list",dict:=Y,data:=.seq j n,slots:=sl }/\s.heap.get? b=some { cls:=.type "list",dict:=G,data:=.seq i I,slots:=z }/\R (.ok (.ret (Value.ref s.heap.objs.size))) { s with heap:=s.heap.push { cls:=Value.type "list",data:=Data.seq (j++i) },toks:=s.toks }):=
 .of_wp fun prog w A R s h=>by let⟨hp,g,d,tk,os⟩:=s;let⟨N,U,h⟩:=h;have f1:=AutoSeq1.idx_int;have f2:=AutoSeq1.sub_tuple_tuple;have f3:=AutoSeq1.sub_list_list;have f4:=AutoSeq1.sub_tuple_list;have Z:=AutoSeq1.sub_list_tuple;wp_walk using AutoSeq1.wpAny_loadPart' N,AutoSeq1.wpAny_loadPart' U;show⟨_,rfl,h⟩
section
variable {X:Cx}{a b c e:Expr}{ma mb:ME}{pos:Pos}
noncomputable def xj5 (K:W.Frag):R2:=fun x y H Q=>∃ l b xs zs,x= .ref l/\y= .ref b/\SqL K H l xs/\SqL K H b zs/\xs.length+zs.length<=sizeLine/\∀ p,H p=none->Q (.ref p) (upd H p (.lst (xs++zs)))
theorem Y3:OpR X (binaryOp .Add) (xj5 X.K):=by
 intro pins s σ H x y v u Q I Z Y h
 let⟨l,b,xs,zs,rfl,rfl,hH,hB,hz,q⟩:=h
 ext Z
 ext Y
 let⟨its,r,⟨⟨cl,dd,dt,sl⟩,n,e,U,hd,hs⟩,z⟩:=I.list hH
 let⟨i,r2,⟨⟨a3,a2,a1,O⟩,n2,e2,N,G,j⟩,z2⟩:=I.list hB
 simp only at U hd hs N G j
 subst U hd hs N G j
 have l1:=r.length
 have l2:=r2.length
 show concat_meets (T:="list") ⟨_,e,rfl⟩ ⟨_,e2,rfl⟩ PySem.noFill_list_add PySem.seq_list_add F.slot_list_add F.entry_list_add (F.args_list_add_2 _ _) (zp7 l its.toArray n b i.toArray n2 none none sl O (by rw[size_toArray,size_toArray];lia)) ⟨e,e2,?_⟩
 have ea:its.toArray++i.toArray=(its++i).toArray:=by simp
 rw[ea]
 show⟨.ref _,_,I.lnew (t':=s.toks) (r.append r2) (by rw[length_append];lia),rfl,q _ I.fresh⟩
@[irreducible] noncomputable def mcat (x y:ML):ML:=fun ρ=>(x ρ).bind fun ds=>(y ρ).bind fun es=>if ds.length+es.length<=sizeLine then some (ds++es)else none
theorem yo1 {x y:ML}{ρ:Ro}{i:List D}(h:mcat x y ρ=some i):∃ ds es,x ρ=some ds/\y ρ=some es/\ds.length+es.length<=sizeLine/\i=ds++es:=by
 delta mcat at h
 cases h1:x ρ with
 |none=>rw[h1]at h;ext h
 |some ds=>
  cases h2:y ρ with
  |none=>rw[h1,h2]at h;ext h
  |some es=>
   rw[h1,h2]at h
   have h:(if ds.length+es.length<=sizeLine then some (ds++es)else none)=some i:=h
   split at h
   .rename_i hz;ext h;show⟨ds,es,rfl,rfl,hz,rfl⟩
   .cases h
theorem ys4 {x y:ML}(ha:PB X a x)(O:PB X b y):PF X (.BinOp a .Add b pos) (mcat x y):=(yf6 Y3 ha O).imp fun σ H Q j=>by
 let⟨F0,H0,F,ρ,g,I,e,q⟩:=j
 let⟨ds,es,h1,h2,N,rfl⟩:=yo1 e
 show⟨F0,H0,F,ρ,ds,I,h1,fun p xs F1 H1 G s1 r1=>⟨F0,H0,F1,ρ,es,I.go G,h2,fun p2 ys F2 H2 i s2 r2=>?_⟩⟩
 show⟨p,p2,xs,ys,rfl,rfl,i.hh.seq s1,s2,by rw[r1.length,r2.length];show N,fun w hw=>?_⟩
 have z:=G.trans i
 show q w _ F2 _ (z.trans (Ext.own i.fh hw)) (z.hh.free hw) (i.fh.free hw) y3 ((r1.mono i.ff).append r2)
noncomputable def addD:D->D->Option D
 | .int i,.int j=>some (.int (i+j))
 | .lst ds,.lst es=>if ds.length+es.length<=sizeLine then some (.lst (ds++es))else none
 |_,_=>none
theorem W8 {K:W.Frag}:OpD K (fun x y H Q=>(rI0 fun i j=>V.int (i+j)) x y H Q\/xj5 K x y H Q) addD:=by
 intro F H x y d e w Q s r1 r2 h q
 cases d with
 |int i=>
  cases e with
  |int j=>
   ext h
   show .inl ⟨_,_,r1.i',r2.i',q _ F H (.refl s) (.int _)⟩
  |_=>ext h
 |lst G=>
  cases e with
  |lst z=>
   let⟨p1,Y,e1,s1,O⟩:=r1.l'
   let⟨p2,U,e2,s2,N⟩:=r2.l'
   have h:(if G.length+z.length<=sizeLine then some (D.lst (G++z))else none)=some w:=h
   by_cases I:G.length+z.length<=sizeLine
   .rw[if_pos I]at h
    ext h
    show .inr ⟨_,_,_,_,e1,e2,s.seq s1,s.seq s2,by rw[O.length,N.length];show I,fun p hp=>?_⟩
    show q _ _ _ (Ext.laid s hp) (.lst (SqL.of y3) ((O.append N).mono ((Same.refl F).put (s.free hp))))
   .rw[if_neg I]at h;ext h
  |_=>ext h
 |_=>ext h
theorem k6 (ha:PD X a ma)(i:PD X b mb):PD X (.BinOp a .Add b pos) (m2 addD ma mb):=yx3 (OpR.or P5 Y3) W8 ha i
theorem S6 (ha:PD X a ma)(i:PD X b mb):PD X (.BinOp a .Sub b pos) (m2 subD ma mb):=yx3 yq0 zi0 ha i
theorem zq1 (ha:PD X a ma)(i:PD X b mb):PD X (.BinOp a .Mult b pos) (m2 mulD ma mb):=yx3 yq2 zi1 ha i
theorem zj8 (ha:PD X a ma)(i:PD X b mb):PD X (.BinOp a .FloorDiv b pos) (m2 zo6 ma mb):=yx3 xt9 ye3 ha i
theorem K8 (ha:PD X a ma)(i:PD X b mb):PD X (.BinOp a .Mod b pos) (m2 modD ma mb):=yx3 xh2 xt7 ha i
theorem ys7 (ha:PD X a ma)(i:PD X b mb):PD X (.BinOp a .Pow b pos) (m2 powD ma mb):=yx3 xh1 xt6 ha i
@[irreducible] noncomputable def X6 (f:List D->Option D)(m:ML):ME:=fun ρ=>(m ρ).bind f
noncomputable def yh1 (K:W.Frag)(r:List V->Hp->VK->Prop)(f:List D->Option D):Prop:=∀(F H:Hp)(vs:List V)(ds:List D)(g:D)(Q:VK),Same F H->Reps K F vs ds->f ds=some g->(∀ v F' H',Ext F H F' H'->Rep K F' v g->Q v H')->r vs H Q
theorem yz5 {r:List V->Hp->VK->Prop}{f:List D->Option D}{m:ML}(G:yh1 X.K r f){σ:St}{H:Hp}{Q:VK}(h:TD X.K (X6 f m) σ H Q):tCB r (TAs X.K m) σ H Q:=by
 let⟨F0,H0,F,ρ,g,z,e,q⟩:=h
 delta X6 at e
 cases h1:m ρ with
 |none=>rw[h1]at e;ext e
 |some ds=>
  rw[h1]at e
  show⟨F0,H0,F,ρ,ds,z,h1,fun vs F1 H1 i r1=>G F1 H1 vs ds g Q i.fh r1 e fun v F' H' j=>q v F' H' (i.trans j)⟩
theorem w9 {e:Expr}{p:Pos}{m:ML}(I:Gl X "len")(hm:X.mg "len"=none)(ha:PB X e m)(hs:starEach (e::[]) X.env=(false,eval e X.env)::starEach [] X.env:=by rfl)(N:starEach [e] X.env=(false,eval e X.env)::starEach [] X.env:=by rfl)(j:(backTo pos (starEach [] X.env)).any (·.1)=false:=by rfl):PD X (.Call (.Name "len" p) [e] [] pos) (mlen m):=
 (T9 zn4 I hm PySem.boot_len (j4 ha pa_nil hs) (by decide) (by decide) N j).imp fun σ H Q i=>by
  let⟨F0,H0,F,ρ,g,G,e,q⟩:=i
  delta mlen at e
  cases h1:m ρ with
  |none=>rw[h1]at e;ext e
  |some ds=>
   rw[h1]at e;ext e
   show⟨F0,H0,F,ρ,ds,G,h1,fun p xs F1 H1 z s1 r1=>⟨p,xs,rfl,.inl s1,?_⟩⟩
   rw[r1.length]
   show q _ F1 H1 z (.int _)
noncomputable def absF:List D->Option D
 |[.int i]=>some (.int (if i<0 then -i else i))
 |_=>none
theorem yj2 {K:W.Frag}:yh1 K (fun xs H Q=>∃ i,xs=[.int i]/\Q (.int (if i<0 then -i else i)) H) absF:=by
 intro F H vs ds g Q s r h q
 cases r with
 |nil=>ext h
 |cons r rr=>
  cases rr with
  |cons _ _=>revert h;delta absF;intro h;split at h <;> simp_all
  |nil=>
   cases r with
   |int i=>ext h;show⟨_,rfl,q _ F H (.refl s) (.int _)⟩
   |_=>ext h
theorem xi6 {e:Expr}{p:Pos}{m:ML}(j:Gl X "abs")(hm:X.mg "abs"=none)(ha:PAs X [e] m)(z:starEach [e] X.env=(false,eval e X.env)::starEach [] X.env:=by rfl)(i:(backTo pos (starEach [] X.env)).any (·.1)=false:=by rfl):PD X (.Call (.Name "abs" p) [e] [] pos) (X6 absF m):=
 (T9 ya1 j hm PyProof.Rows.boot_abs ha (by decide) (by decide) z i).imp fun _ _ _ h=>yz5 yj2 h
noncomputable def two2 (k:Int->Int->Int):List D->Option D
 |[.int i,.int j]=>some (.int (k i j))
 |_=>none
theorem yh6 {k:Int->Int->Int}{ds:List D}{g:D}(h:two2 k ds=some g):∃ i j,ds=[.int i,.int j]/\g= .int (k i j):=by
 cases ds with
 |nil=>ext h
 |cons d ds=>
  cases ds with
  |nil=>ext d <;> ext h
  |cons e ds=>
   cases ds with
   |cons f ds=>ext d <;> first| (ext h;done)| (ext e <;> ext h)
   |nil=>
    cases d with
    |int i=>
     cases e with
     |int j=>ext h;show⟨i,j,rfl,rfl⟩
     |_=>ext h
    |_=>ext h
theorem zn0 {K:W.Frag}{k:Int->Int->Int}:yh1 K (fun xs H Q=>∃ i j,xs=[.int i,.int j]/\Q (.int (k i j)) H) (two2 k):=by
 intro F H vs ds g Q s r h q
 let⟨i,j,rfl,rfl⟩:=yh6 h
 cases r with
 |cons r rr=>
  cases rr with
  |cons r2 rr=>
   ext rr
   rw[r.i',r2.i']
   show⟨_,_,rfl,q _ F H (.refl s) (.int _)⟩
noncomputable def zh3:List D->Option D:=two2 fun i j=>if j>i then j else i
noncomputable def yx8:List D->Option D:=two2 fun i j=>if j<i then j else i
theorem yr2 {x y:Expr}{p:Pos}{m:ML}(N:X.calm=true)(G:Gl X "max")(hm:X.mg "max"=none)(ha:PAs X [x,y] m)(I:starEach [x,y] X.env=(false,eval x X.env)::starEach [y] X.env:=by rfl)(z:(backTo pos (starEach [y] X.env)).any (·.1)=false:=by rfl):PD X (.Call (.Name "max" p) [x,y] [] pos) (X6 zh3 m):=
 (T9 (yj6 N) G hm PyProof.Rows.boot_max ha (by decide) (by decide) I z).imp fun _ _ _ h=>yz5 (zn0 (k:=fun i j=>if j>i then j else i)) h
theorem ys8 {x y:Expr}{p:Pos}{m:ML}(N:X.calm=true)(G:Gl X "min")(hm:X.mg "min"=none)(ha:PAs X [x,y] m)(I:starEach [x,y] X.env=(false,eval x X.env)::starEach [y] X.env:=by rfl)(z:(backTo pos (starEach [y] X.env)).any (·.1)=false:=by rfl):PD X (.Call (.Name "min" p) [x,y] [] pos) (X6 yx8 m):=
 (T9 (yj4 N) G hm PyProof.Rows.boot_min ha (by decide) (by decide) I z).imp fun _ _ _ h=>yz5 (zn0 (k:=fun i j=>if j<i then j else i)) h
noncomputable def intF:List D->Option D
 |[.int i]=>some (.int i)
 |[.bl k]=>some (.int (if k then 1 else 0))
 |_=>none
theorem zn1 {K:W.Frag}:yh1 K (fun xs H Q=>(∃ i,xs=[.int i]/\Q (.int i) H)\/∃ k,xs=[.bl k]/\Q (.int (if k then 1 else 0)) H) intF:=by
 intro F H vs ds g Q s r h q
 cases r with
 |nil=>ext h
 |cons r rr=>
  cases rr with
  |cons _ _=>revert h;delta intF;intro h;split at h <;> simp_all
  |nil=>
   cases r with
   |int i=>ext h;show .inl ⟨_,rfl,q _ F H (.refl s) (.int _)⟩
   |bl i=>ext h;show .inr ⟨_,rfl,q _ F H (.refl s) (.int _)⟩
   |_=>ext h
theorem xt4 {e:Expr}{p:Pos}{m:ML}(z:Gl X "int")(hm:X.mg "int"=none)(ha:PAs X [e] m)(j:bootBuiltins "int"=some (.type "int"))(G:starEach [e] X.env=(false,eval e X.env)::starEach [] X.env:=by rfl)(i:(backTo pos (starEach [] X.env)).any (·.1)=false:=by rfl):PD X (.Call (.Name "int" p) [e] [] pos) (X6 intF m):=
 (N3 zn5 z hm j ha (by decide) (by decide) G i).imp fun _ _ _ h=>yz5 zn1 h
theorem zj6 {e:Expr}{p:Pos}{m:ML}(N:Gl X "list")(hm:X.mg "list"=none)(ha:PB X e m)(I:bootBuiltins "list"=some (.type "list"))(hs:starEach (e::[]) X.env=(false,eval e X.env)::starEach [] X.env:=by rfl)(z:(backTo pos (starEach [] X.env)).any (·.1)=false:=by rfl):PF X (.Call (.Name "list" p) [e] [] pos) m:=
 (N3 zn3 N hm I (j4 ha pa_nil hs) (by decide) (by decide) hs z).imp fun σ H Q i=>by
  let⟨F0,H0,F,ρ,ds,G,e,q⟩:=i
  show⟨F0,H0,F,ρ,ds,G,e,fun p xs F1 H1 j s1 r1=>⟨p,xs,rfl,.inl s1,fun w hw=>?_⟩⟩
  show q w _ F1 _ (j.trans (Ext.own j.fh hw)) (j.hh.free hw) (j.fh.free hw) y3 r1
end
end
section
inductive Out where
 |nx (ρ:Ro)|bk (ρ:Ro)|ct (ρ:Ro)|rt (d:D)|rf (ds:List D)|rp (d:D) (ds:List D)|rg (d:D) (p:Addr) (r:List D)|rgf (ds:List D) (p:Addr) (r:List D)
noncomputable abbrev MS:=Ro->Option Out
noncomputable def okO (K:W.Frag)(F0 H0 Fb:Hp)(Dn:Ends):Out->Prop
 | .nx ρ=>∀ F H σ,Rl K F0 H0 F H σ ρ->Same Fb F->Dn.nx σ H
 | .bk ρ=>∀ F H σ,Rl K F0 H0 F H σ ρ->Same Fb F->Dn.bk σ H
 | .ct ρ=>∀ F H σ,Rl K F0 H0 F H σ ρ->Same Fb F->Dn.ct σ H
 | .rt d=>∀ v F H,Ext F0 H0 F H->Rep K F v d->Dn.rt v H
 | .rf ds=>∀ p xs F H,Ext F0 H0 F H->H0 p=none->F p=none->H p=some (.lst xs)->Reps K F xs ds->Dn.rt (.ref p) H
 | .rp d ds=>∀ t v p xs F H,Ext F0 H0 F H->H0 t=none->H0 p=none->t≠p->F t=none->F p=none->H t=some (.tup [v,.ref p])->H p=some (.lst xs)->Rep K F v d->Reps K F xs ds->Dn.rt (.ref t) H
 | .rg d p r=>∀ v F H xs,Ext F0 H0 F H->Rep K F v d->F p=none->H p=some (.lst xs)->Reps K F xs r->Dn.rt v H
 | .rgf ds p r=>∀ q ys F H xs,Ext F0 H0 F H->H0 q=none->F q=none->q≠p->H q=some (.lst ys)->Reps K F ys ds->F p=none->H p=some (.lst xs)->Reps K F xs r->Dn.rt (.ref q) H
noncomputable def TSd (K:W.Frag)(m:MS):TS:=fun Dn σ H=>∃ F0 H0 F ρ o,Rl K F0 H0 F H σ ρ/\m ρ=some o/\okO K F0 H0 F Dn o
theorem okO.mono {K:W.Frag}{F0 H0 z j:Hp}{G:Ends}(s:Same z j):∀{o:Out},okO K F0 H0 z G o->okO K F0 H0 j G o
 | .nx _,h=>fun F H σ i q=>h F H σ i (s.trans q)
 | .bk _,h=>fun F H σ i q=>h F H σ i (s.trans q)
 | .ct _,h=>fun F H σ i q=>h F H σ i (s.trans q)
 | .rt _,h=>h
 | .rf _,h=>h
 | .rp _ _,h=>h
 | .rg _ _ _,h=>h
 | .rgf _ _ _,h=>h
noncomputable def PSd (X:Cx)(st:Stmt)(m:MS):Prop:=PS X st (TSd X.K m)
noncomputable def PSsd (X:Cx)(st:List Stmt)(m:MS):Prop:=PSs X st (TSd X.K m)
section
variable {X:Cx}{a b c e:Expr}{ma mb:ME}{pos:Pos}{st:Stmt}{rest:List Stmt}{m1 m2':MS}
theorem PS.imp {t t':TS}(h:PS X st t)(i:∀ D σ H,t' D σ H->t D σ H):PS X st t':=fun pins s σ H D I q=>h pins s σ H D I (i D σ H q)
theorem PSs.imp {sts:List Stmt}{t t':TS}(h:PSs X sts t)(i:∀ D σ H,t' D σ H->t D σ H):PSs X sts t':=fun pins s σ H D I q=>h pins s σ H D I (i D σ H q)
noncomputable def Y9:MS:=fun ρ=>some (.nx ρ)
noncomputable def mseq (x y:MS):MS:=fun ρ=>match x ρ with |some (.nx ρ')=>y ρ'|o=>o
theorem i7:PSsd X [] Y9:=pss_nil.imp fun D σ H i=>by let⟨F0,H0,F,ρ,o,j,e,ok⟩:=i;ext e;show ok F H σ j (Same.refl _)
theorem z6 (h1:PSd X st m1)(h2:PSsd X rest m2'):PSsd X (st::rest) (mseq m1 m2'):=(F6 h1 h2).imp fun D σ H j=>by
 let⟨F0,H0,F,ρ,o,i,e,ok⟩:=j
 delta mseq at e
 cases h:m1 ρ with
 |none=>rw[h]at e;ext e
 |some N=>
  rw[h]at e
  cases N with
  |nx ρ1=>show⟨F0,H0,F,ρ,_,i,h,fun F' H' G z I=>⟨F0,H0,F',ρ1,o,z,e,ok.mono I⟩⟩
  |bk ρ1=>ext e;show⟨F0,H0,F,ρ,_,i,h,ok⟩
  |ct ρ1=>ext e;show⟨F0,H0,F,ρ,_,i,h,ok⟩
  |rt d=>ext e;show⟨F0,H0,F,ρ,_,i,h,ok⟩
  |rf d=>ext e;show⟨F0,H0,F,ρ,_,i,h,ok⟩
  |rp d ds=>ext e;show⟨F0,H0,F,ρ,_,i,h,ok⟩
  |rg d p r=>ext e;show⟨F0,H0,F,ρ,_,i,h,ok⟩
  |rgf d p r=>ext e;show⟨F0,H0,F,ρ,_,i,h,ok⟩
theorem y6 (h1:PSd X st m1):PSsd X [st] m1:=zv4 h1
noncomputable def mif (c:MB)(x y:MS):MS:=fun ρ=>match c ρ with |some true=>x ρ|some false=>y ρ|none=>none
theorem R4 {ca:MB}{x y:List Stmt}{mx G:MS}(O:PC' X c ca)(N:PSsd X x mx)(I:PSsd X y G):PSd X (.If c x y pos) (mif ca mx G):=(yf1 O N I).imp fun D σ H j=>by
 let⟨F0,H0,F,ρ,o,z,e,ok⟩:=j
 delta mif at e
 split at e
 .rename_i h1
  show⟨F0,H0,F,ρ,_,z,h1,fun F1 H1 i=>iteT ⟨F0,H0,F1,ρ,o,z.go i,e,ok.mono i.ff⟩⟩
 .rename_i h1
  show⟨F0,H0,F,ρ,_,z,h1,fun F1 H1 i=>iteF ⟨F0,H0,F1,ρ,o,z.go i,e,ok.mono i.ff⟩⟩
 .cases e
noncomputable def yp6:MS:=fun _=>none
theorem yt6:PSd X st yp6:=ps_never.imp fun D σ H i=>by let⟨F0,H0,F,ρ,o,j,e,ok⟩:=i;ext e
noncomputable def mset (i:Nat)(x:ME):MS:=fun ρ=>(x ρ).map fun d=>.nx (ρ.set i (some (.sh d)))
noncomputable def d3 (i:Nat)(x:ML):MS:=fun ρ=>(x ρ).map fun ds=>.nx (ρ.set i (some (.own ds)))
theorem xd9 {t:TE}{i:Nat}(h:PS X st (tAsg t (X3 i)))(I:∀ σ H Q,TD X.K ma σ H Q->t σ H Q):PSd X st (mset i ma):=h.imp fun D σ H j=>by
 let⟨F0,H0,F,ρ,o,G,e,ok⟩:=j
 delta mset at e
 cases h1:ma ρ with
 |none=>rw[h1]at e;ext e
 |some d=>
  rw[h1]at e;ext e
  show I _ _ _ ⟨F0,H0,F,ρ,d,G,h1,fun v F1 H1 z r1=>ok F1 H1 _ ((G.go z).set r1) z.ff⟩
theorem ww1 {t:TE}{i:Nat}{mf:ML}(h:PS X st (tAsg t (X3 i)))(O:∀ σ H Q,TF X.K mf σ H Q->t σ H Q):PSd X st (d3 i mf):=h.imp fun D σ H I=>by
 let⟨F0,H0,F,ρ,o,G,e,ok⟩:=I
 delta d3 at e
 cases h1:mf ρ with
 |none=>rw[h1]at e;ext e
 |some ds=>
  rw[h1]at e;ext e
  show O _ _ _ ⟨F0,H0,F,ρ,ds,G,h1,fun p xs F1 H1 N hp Y U r1=>ok F1 H1 _ ?_ N.ff⟩
  show(G.go N).setOwn Y U r1 (G.ext.hh.free hp) (fun j es Z e1 e2=>?_) fun j q es e1 z=>?_
  .let⟨q,ys,a1,a2,a3,_⟩:=G.own j es e1
   rw[a1]at e2;ext e2
   rw[hp]at a3;ext a3
  .let⟨_,_,_,ys,a3,_⟩:=G.ob j q es e1
   rw[z,hp]at a3;ext a3
theorem j9 {i:Nat}{x:Str}{pos':Pos}(I:X.N.Nodup)(hi:X.N[i]? =some x)(j:Loc X.env.scope x)(G:PD X e ma)(hs:swapsWith e (some (.Name x pos')) pos.line X.env=pure false:=by rfl)(z:X.fn x=true\/X.env.scope.names.lookup x=some .local:=by first|show .inl rfl|show .inr rfl|assumption):
  PSd X (.Assign [.Name x pos'] e pos) (mset i ma):=xd9 (zr6 I hi j G hs z) fun _ _ _ h=>h
theorem j6 {i:Nat}{x:Str}{pos':Pos}{mf:ML}(I:X.N.Nodup)(hi:X.N[i]? =some x)(j:Loc X.env.scope x)(G:PF X e mf)(hs:swapsWith e (some (.Name x pos')) pos.line X.env=pure false:=by rfl)(z:X.fn x=true\/X.env.scope.names.lookup x=some .local:=by first|show .inl rfl|show .inr rfl|assumption):
  PSd X (.Assign [.Name x pos'] e pos) (d3 i mf):=ww1 (zr6 I hi j G hs z) fun _ _ _ h=>h
noncomputable def zi9 (x:ME):MS:=fun ρ=>(x ρ).map fun _=>.nx ρ
theorem zd8 (G:PD X e ma)(hs:swapsWith e none pos.line X.env=pure false:=by rfl):PSd X (.Expr e pos) (zi9 ma):=(zj4 G hs).imp fun D σ H i=>by
 let⟨F0,H0,F,ρ,o,z,e,ok⟩:=i
 delta zi9 at e
 cases h1:ma ρ with
 |none=>rw[h1]at e;ext e
 |some d=>
  rw[h1]at e;ext e
  show⟨F0,H0,F,ρ,d,z,h1,fun v F1 H1 j r1=>ok F1 H1 _ (z.go j) j.ff⟩
noncomputable def mret (x:ME):MS:=fun ρ=>(x ρ).map .rt
noncomputable def yp2 (x:ML):MS:=fun ρ=>(x ρ).map .rf
noncomputable def yp1 (i:Nat):MS:=fun ρ=>match ρ[i]? with |some (some (.own ds))=>some (.rf ds)|some (some (.sh d))=>some (.rt d)|_=>none
theorem a7 (G:PD X e ma):PSd X (.Return (some e) pos) (mret ma):=(K5 G).imp fun D σ H i=>by
 let⟨F0,H0,F,ρ,o,j,e,ok⟩:=i
 delta mret at e
 cases h1:ma ρ with
 |none=>rw[h1]at e;ext e
 |some d=>
  rw[h1]at e;ext e
  show⟨F0,H0,F,ρ,d,j,h1,fun v F1 H1 z r1=>ok v F1 H1 (j.ext.trans z) r1⟩
theorem yg8 {mf:ML}(G:PF X e mf):PSd X (.Return (some e) pos) (yp2 mf):=(K5 G).imp fun D σ H i=>by
 let⟨F0,H0,F,ρ,o,j,e,ok⟩:=i
 delta yp2 at e
 cases h1:mf ρ with
 |none=>rw[h1]at e;ext e
 |some ds=>
  rw[h1]at e;ext e
  show⟨F0,H0,F,ρ,ds,j,h1,fun p xs F1 H1 z hp N I r1=>ok p xs F1 H1 (j.ext.trans z) (j.ext.hh.free hp) N I r1⟩
theorem yg7 (i:Nat){x:Str}{pos':Pos}(h:PE X (.Name x pos') (tVar i)):PSd X (.Return (some (.Name x pos')) pos) (yp1 i):=(K5 h).imp fun D σ H j=>by
 let⟨F0,H0,F,ρ,o,z,e,ok⟩:=j
 delta yp1 at e
 split at e
 .rename_i ds h1
  ext e
  let⟨p,xs,e1,e2,e3,I,G⟩:=z.own i _ h1
  show⟨_,e1,ok p xs F H z.ext G e2 e3 I⟩
 .rename_i d h1
  ext e
  let⟨v,e1,e2⟩:=z.sh i _ h1
  show⟨_,e1,ok v F H z.ext e2⟩
 .cases e
noncomputable def mapp (i:Nat)(x:ME):MS:=fun ρ=>match ρ[i]? with |some (some (.own ds))=>(x ρ).bind fun d=>if ds.length<sizeLine then some (.nx (ρ.set i (some (.own (ds++[d])))))else none|_=>none
theorem f6 {i:Nat}{x:Str}{e:Expr}{G apos cpos:Pos}(Y:PE X (.Name x G) (tVar i))(Z:PD X e ma)
  (O:∀ t,PA X [e] t->PE X (.Call (.Attribute (.Name x G) "append" apos) [e] [] cpos) (tBM X.K "list" zv2 (tVar i) t)) (U:PAs X [e] (z5 ma anil)) (hs:swapsWith (.Call (.Attribute (.Name x G) "append" apos) [e] [] cpos) none pos.line X.env=pure false:=by rfl):
  PSd X (.Expr (.Call (.Attribute (.Name x G) "append" apos) [e] [] cpos) pos) (mapp i ma):=(zj4 (O _ U) hs).imp fun D σ H j=>by
 let⟨F0,H0,F,ρ,o,I,e,ok⟩:=j
 delta mapp at e
 split at e
 .rename_i ds h1
  let⟨p,xs,e1,e2,e3,N,e5⟩:=I.own i _ h1
  cases h2:ma ρ with
  |none=>rw[h2]at e;ext e
  |some d=>
   rw[h2]at e
   have e:(if ds.length<sizeLine then some (Out.nx (ρ.set i (some (.own (ds++[d])))))else none)=some o:=e
   split at e
   .rename_i hz
    ext e
    show⟨_,e1,.inl ⟨rfl,_,SqL.of e3⟩,F0,H0,F,ρ,[d],I,by delta z5 anil;rw[h2];rfl,fun vs F1 H1 z r1=>?_⟩
    cases r1 with
    |cons r rr=>
     ext rr
     have hp:H1 p=some (.lst xs):=z.hh _ _ e3
     show⟨p,xs,_,rfl,rfl,hp,by rw[N.length];show hz,ok F1 _ σ ((I.go z).write h1 e1 ((N.mono z.ff).append (.cons r .nil))) z.ff⟩
   .cases e
 .cases e
noncomputable def U0 (i:Nat)(ix v:ME):MS:=fun ρ=>(v ρ).bind fun d=>match ρ[i]? with
 |some (some (.own ds))=>(ix ρ).bind (fun x=>match x with | .int k=>(ixN ds.length k).map fun j=>.nx (ρ.set i (some (.own (ds.set j d))))|_=>none)
 |some (some (.ob p ds))=>(ix ρ).bind (fun x=>match x with | .int k=>(ixN ds.length k).map fun j=>.nx (ρ.set i (some (.ob p (ds.set j d))))|_=>none)
 |_=>none
theorem Y2 {i:Nat}(Z:PS X st (tAsg (TD X.K mb) (gSub (tVar i) (TD X.K ma) xv4))):PSd X st (U0 i ma mb):=Z.imp fun D σ H U=>by
 let⟨F0,H0,F,ρ,o,O,e,ok⟩:=U
 delta U0 at e
 cases h1:mb ρ with
 |none=>rw[h1]at e;ext e
 |some d=>
  rw[h1]at e
  show⟨F0,H0,F,ρ,d,O,h1,fun y F1 H1 I r1=>?_⟩
  dsimp only[Option.bind]at e
  split at e
  .rename_i ds h2
   let⟨p,xs,e1,e2,e3,Y,e5⟩:=(O.go I).own i _ h2
   cases h3:ma ρ with
   |none=>rw[h3]at e;ext e
   |some k'=>
    rw[h3]at e
    show⟨_,e1,F0,H0,F1,ρ,k',O.go I,h3,fun z F2 H2 G r2=>?_⟩
    ext r2 <;> first| (ext e;done)|skip
    rename_i k
    have e:(ixN ds.length k).map (fun j=>Out.nx (ρ.set i (some (.own (ds.set j d)))))=some o:=e
    cases h4:ixN ds.length k with
    |none=>rw[h4]at e;ext e
    |some j=>
     rw[h4]at e;ext e
     have N:=(O.go I).go G
     show⟨p,xs,k,j,rfl,rfl,G.hh _ _ e3,by rw[Y.length];show h4,ok F2 _ σ (N.write h2 e1 (Reps.set (r1.mono G.ff) j (Y.mono G.ff))) (I.ff.trans G.ff)⟩
  .rename_i p ds h2
   let⟨e1,e2,e5,xs,e3,Y⟩:=(O.go I).ob i p _ h2
   cases h3:ma ρ with
   |none=>rw[h3]at e;ext e
   |some k'=>
    rw[h3]at e
    show⟨_,e1,F0,H0,F1,ρ,k',O.go I,h3,fun z F2 H2 G r2=>?_⟩
    ext r2 <;> first| (ext e;done)|skip
    rename_i k
    have e:(ixN ds.length k).map (fun j=>Out.nx (ρ.set i (some (.ob p (ds.set j d)))))=some o:=e
    cases h4:ixN ds.length k with
    |none=>rw[h4]at e;ext e
    |some j=>
     rw[h4]at e;ext e
     have N:=(O.go I).go G
     show⟨p,xs,k,j,rfl,rfl,G.hh _ _ e3,by rw[Y.length];show h4,ok F2 _ σ (N.writeB h2 (Reps.set (r1.mono G.ff) j (Y.mono G.ff))) (I.ff.trans G.ff)⟩
  .cases e
noncomputable def d5 (i:Nat)(m:MS):MS:=fun ρ=>match ρ[i]? with |some (some (.own ds))=>m (ρ.set i (some (.sh (.lst ds))))|_=>m ρ
theorem g8 (i:Nat){sts:List Stmt}{m:MS}(h:PSsd X sts m):PSsd X sts (d5 i m):=h.imp fun D σ H j=>by
 let⟨F0,H0,F,ρ,o,G,e,ok⟩:=j
 delta d5 at e
 split at e
 .rename_i ds h1
  let⟨F',z,I⟩:=G.freeze h1
  show⟨F0,H0,F',_,o,z,e,ok.mono I⟩
 .exact⟨F0,H0,F,ρ,o,G,e,ok⟩
inductive Tg where
 |nm (i:Nat)|tp (is:List Nat)|nt (i:Nat) (is:List Nat)
noncomputable def D5:List Nat->List D->Ro->Option Ro
 |[],[],ρ=>some ρ
 |i::is,d::ds,ρ=>D5 is ds (ρ.set i (some (.sh d)))
 |_,_,_=>none
noncomputable def tgD:Tg->D->Ro->Option Ro
 | .nm i,d,ρ=>some (ρ.set i (some (.sh d)))
 | .tp is,.tup ds,ρ=>D5 is ds ρ
 | .nt i is,.tup [d,.tup ds],ρ=>D5 is ds (ρ.set i (some (.sh d)))
 |_,_,_=>none
noncomputable def TGd (K:W.Frag)(g:Tg):TG:=fun v σ H Q=>∃ F0 H0 F ρ d ρ',Rl K F0 H0 F H σ ρ/\Rep K F v d/\tgD g d ρ=some ρ'/\∀ F' H' σ',Rl K F0 H0 F' H' σ' ρ'->Ext F H F' H'->Q σ' H'
noncomputable def PGd (X:Cx)(tg:Expr)(g:Tg):Prop:=PG X tg (TGd X.K g)
theorem PG.imp {tg:Expr}{t t':TG}(h:PG X tg t)(i:∀ v σ H Q,t' v σ H Q->t v σ H Q):PG X tg t':=fun pins s σ H v u Q I r q=>h pins s σ H v u Q I r (i v σ H Q q)
theorem v4 {i:Nat}{x:Str}{pos:Pos}(h:PG X (.Name x pos) (X3 i)):PGd X (.Name x pos) (.nm i):=PG.imp h fun v σ H Q j=>by
 let⟨F0,H0,F,ρ,d,ρ',z,r,e,q⟩:=j
 ext e;show q F H _ (z.set r) (.refl z.fh)
noncomputable def gAll:List Nat->TGs
 |[]=>gNil
 |i::is=>yb0 (X3 i) (gAll is)
theorem ym6 {K:W.Frag}{F0 H0 F H:Hp}{Q:St->Hp->Prop}:∀(is:List Nat)(vs:List V)(ds:List D)(σ:St)(ρ ρ':Ro),Rl K F0 H0 F H σ ρ->Reps K F vs ds->D5 is ds ρ=some ρ'->(∀ j,Rl K F0 H0 F H j ρ'->Q j H)->gAll is vs σ H Q
 |[],_,[],σ,ρ,ρ',rl,r,e,q=>by ext r;ext e;show⟨rfl,q σ rl⟩
 |[],_,_::_,_,_,_,_,_,e,_=>by ext e
 |_::_,_,[],_,_,_,_,_,e,_=>by ext e
 |i::is,_,d::ds,σ,ρ,ρ',rl,r,e,q=>by
  cases r with
  |cons r rr=>show⟨_,_,rfl,ym6 is _ ds _ _ ρ' (rl.set r) rr e q⟩
theorem zy4:∀(is:List Nat)(ds:List D)(ρ ρ':Ro),D5 is ds ρ=some ρ'->ds.length=is.length
 |[],[],_,_,_=>rfl
 |[],_::_,_,_,e=>by ext e
 |_::_,[],_,_,e=>by ext e
 |_::is,_::ds,ρ,ρ',e=>congrArg (·+1) (zy4 is ds _ ρ' e)
theorem P9 {es:List Expr}{k n:Nat}{is:List Nat}{pos:Pos}(h:PG X (.Tuple es k pos) (gTup X.K n (gAll is)))(hn:is.length=n:=by rfl):PGd X (.Tuple es k pos) (.tp is):=PG.imp h fun v σ H Q i=>by
 let⟨F0,H0,F,ρ,d,ρ',G,r,e,q⟩:=i
 cases r with
 |tup s t=>show⟨_,_,rfl,G.fh.seqT s,by rw[t.length,zy4 _ _ _ _ e,hn],ym6 is _ _ σ ρ ρ' G t e fun j z=>q F H j z (.refl G.fh)⟩
 |_=>ext e
noncomputable def masg (g:Tg)(x:ME):MS:=fun ρ=>(x ρ).bind fun d=>(tgD g d ρ).map .nx
theorem zv5 {g:Tg}(h:PS X st (tAsg (TD X.K ma) (TGd X.K g))):PSd X st (masg g ma):=h.imp fun D σ H i=>by
 let⟨F0,H0,F,ρ,o,I,e,ok⟩:=i
 delta masg at e
 cases h1:ma ρ with
 |none=>rw[h1]at e;ext e
 |some d=>
  rw[h1]at e
  have e:(tgD g d ρ).map Out.nx=some o:=e
  cases h2:tgD g d ρ with
  |none=>rw[h2]at e;ext e
  |some ρ'=>
   rw[h2]at e;ext e
   show⟨F0,H0,F,ρ,d,I,h1,fun v F1 H1 G r1=>⟨F0,H0,F1,ρ,d,ρ',I.go G,r1,h2,fun F' H' j z N=>ok F' H' j z (G.ff.trans N.ff)⟩⟩
structure ItD (K:W.Frag)(F:Hp)(J:It)(its:List D):Prop where
 go:∀(i:Nat) F1 H1,Same F F1->Same F1 H1->i<its.length->J.go i H1
 yld:∀(i:Nat) F1 H1 x H2 d,Same F F1->Same F1 H1->its[i]? =some d->J.yld i H1 x H2->∃ F2,Ext F1 H1 F2 H2/\Rep K F2 x d
 stop:∀ F1 H1,Same F F1->Same F1 H1->J.stop its.length H1
noncomputable def TId (K:W.Frag)(mi:ML):TI:=fun σ H R=>∃ F0 H0 F ρ its,Rl K F0 H0 F H σ ρ/\mi ρ=some its/\∀ J F' H',Ext F H F' H'->ItD K F' J its->R J H'
noncomputable def PId (X:Cx)(tg iter:Expr)(mi:ML):Prop:=PI X tg iter (TId X.K mi)
theorem PI.imp {tg it:Expr}{t t':TI}(h:PI X tg it t)(i:∀ σ H R,t' σ H R->t σ H R):PI X tg it t':=fun pins s σ H R I q=>h pins s σ H R I (i σ H R q)
theorem yc6 {K:W.Frag}{F:Hp}{p:Addr}{xs:List V}{ds:List D}(s:SqL K F p xs)(r:Reps K F xs ds):ItD K F (Itl K p) ds where
 go:=fun i F1 H1 a b hi=>by
  let⟨v,e,_⟩:=r.get (getElem?_eq_getElem hi)
  show⟨xs,v,b.seq (a.seq s),e⟩
 yld:=fun i F1 H1 x H2 d a b e y=>by
  let⟨rfl,y⟩:=y
  let⟨v,e1,e2⟩:=r.get e
  have:=y xs (b.seq (a.seq s))
  rw[e1]at this;ext this
  show⟨F1,.refl b,e2.mono a⟩
 stop:=fun F1 H1 a b=>⟨xs,b.seq (a.seq s),by rw[r.length];show Nat.le_refl _⟩
theorem P8 {tg:Expr}(hd:PD X e ma):PId X tg e (u6 ma):=PI.imp (xu5 hd) fun σ H R i=>by
 let⟨F0,H0,F,ρ,its,z,e,q⟩:=i
 delta u6 at e
 split at e
 .rename_i ds h1
  ext e
  show⟨F0,H0,F,ρ,_,z,h1,fun v F1 H1 j r1=>?_⟩
  cases r1 with
  |lst s t=>show⟨_,rfl,⟨_,j.fh.seq s⟩,q _ F1 H1 j (yc6 s t)⟩
 .cases e
noncomputable def g9 (lo:Int)(n:Nat):List D:=(List.range n).map fun(i:Nat)=>D.int (lo+(i:Int))
theorem N2 (lo:Int)(n:Nat):(g9 lo n).length=n:=by delta g9;simp
theorem B6 {K:W.Frag}{F:Hp}{lo:Int}{n:Nat}:ItD K F (Itr lo n) (g9 lo n) where
 go:=fun i F1 H1 a b hi=>by rw[N2]at hi;show hi
 yld:=fun i F1 H1 x H2 d a b e y=>by
  let⟨rfl,rfl⟩:=y
  delta g9 at e
  rw[getElem?_map]at e
  have hi:i<n:=by
   rcases Nat.lt_or_ge i n with h|h
   .exact h
   .rw[getElem?_eq_none (by simpa using h)]at e;ext e
  rw[getElem?_range hi]at e
  ext e
  show⟨F1,.refl b,.int _⟩
 stop:=fun F1 H1 a b=>by rw[N2];show Nat.le_refl n
noncomputable def okR (j:Int):Bool:=decide (-(2^62)<=j)&&decide (j<2^62)
noncomputable def rng1:List D->Option (List D)
 |[.int j]=>if okR j=true then some (g9 0 j.toNat)else none
 |_=>none
noncomputable def rng2:List D->Option (List D)
 |[.int i,.int j]=>if (okR i&&okR j)=true then some (g9 i (j-i).toNat)else none
 |_=>none
@[irreducible] noncomputable def t9 (f:List D->Option (List D))(m:ML):ML:=fun ρ=>(m ρ).bind f
theorem U3 {f:List D->Option (List D)}{m:ML}{ρ:Ro}{i:List D}(h:t9 f m ρ=some i):∃ ds,m ρ=some ds/\f ds=some i:=by
 delta t9 at h
 cases h1:m ρ with
 |none=>rw[h1]at h;ext h
 |some ds=>rw[h1]at h;show⟨ds,rfl,h⟩
theorem V7 {tg a:Expr}{m:ML}{p pos:Pos}(I:Gl X "range")(hm:X.mg "range"=none)(ha:PAs X [a] m)(hs:starEach [a] X.env=[(false,eval a X.env)]:=by rfl):PId X tg (.Call (.Name "range" p) [a] [] pos) (t9 rng1 m):=PI.imp (zq0 I hm ha hs) fun σ H R i=>by
 let⟨F0,H0,F,ρ,its,G,e,q⟩:=i
 let⟨ds,h1,h2⟩:=U3 e
 show⟨F0,H0,F,ρ,ds,G,h1,fun vs F1 H1 z r1=>?_⟩
 delta rng1 at h2
 split at h2
 .rename_i j
  split at h2
  .rename_i hk
   ext h2
   delta okR at hk
   simp only[Bool.and_eq_true,decide_eq_true_eq]at hk
   cases r1 with
   |cons r rr=>
    ext rr;ext r
    show⟨j,rfl,hk.1,hk.2,q _ F1 H1 z B6⟩
  .cases h2
 .cases h2
theorem i8 {tg a b:Expr}{m:ML}{p pos:Pos}(O:Gl X "range")(hm:X.mg "range"=none)(ha:PAs X [a,b] m)(hs:starEach [a,b] X.env=[(false,eval a X.env),(false,eval b X.env)]:=by rfl)(G:starEach [b] X.env=[(false,eval b X.env)]:=by rfl):PId X tg (.Call (.Name "range" p) [a,b] [] pos) (t9 rng2 m):=PI.imp (ys3 O hm ha hs G) fun σ H R z=>by
 let⟨F0,H0,F,ρ,its,N,e,q⟩:=z
 let⟨ds,h1,h2⟩:=U3 e
 show⟨F0,H0,F,ρ,ds,N,h1,fun vs F1 H1 I r1=>?_⟩
 delta rng2 at h2
 split at h2
 .rename_i i j
  split at h2
  .rename_i hk
   ext h2
   delta okR at hk
   simp only[Bool.and_eq_true,decide_eq_true_eq]at hk
   cases r1 with
   |cons r rr=>
    cases rr with
    |cons r2 rr=>
     ext rr;ext r;ext r2
     show⟨i,j,rfl,⟨hk.1.1,hk.1.2,hk.2.1,hk.2.2⟩,q _ F1 H1 I B6⟩
  .cases h2
 .cases h2
noncomputable def X5:Nat->List D->List D
 |_,[]=>[]
 |i,d::ds=>.tup [.int i,d]::X5 (i+1) ds
theorem W5:∀ i ds,(X5 i ds).length=ds.length
 |_,[]=>rfl
 |i,_::ds=>by simp[X5,W5 (i+1) ds]
theorem A9:∀(k:Nat) ds (i:Nat) d,ds[i]? =some d->(X5 k ds)[i]? =some (.tup [.int ((k+i:Nat):Int),d])
 |_,[],_,_,h=>by simp at h
 |k,_::ds,0,d,h=>by simp at h;subst h;rfl
 |k,_::ds,i+1,d,h=>by
  have:=A9 (k+1) ds i d (by simpa using h)
  have e:k+1+i=k+(i+1):=by lia
  rw[e]at this
  simpa[X5]using this
noncomputable def zg5:List D->Option (List D)
 |[.lst ds]=>some (X5 0 ds)
 |_=>none
theorem yc7 {K:W.Frag}{F:Hp}{p:Addr}{xs:List V}{ds:List D}(s:SqL K F p xs)(r:Reps K F xs ds):ItD K F (Ite K p) (X5 0 ds) where
 go:=fun i F1 H1 a b hi=>by
  rw[W5]at hi
  let⟨v,e,_⟩:=r.get (getElem?_eq_getElem hi)
  show⟨xs,v,b.seq (a.seq s),e⟩
 yld:=fun i F1 H1 x H2 d a b e y=>by
  let⟨t,u,rfl,z,rfl,j⟩:=y
  have j:=j xs (b.seq (a.seq s))
  let⟨I,e1,r1⟩:=r.get' j
  rw[A9 0 ds i I e1,Nat.zero_add]at e
  ext e
  show⟨upd F1 t (.tup [.int i,u]),Ext.laid b z,.tup (SqT.of y3) ?_⟩
  have G:Same F (upd F1 t (.tup [.int i,u])):=a.trans ((Same.refl F1).put (b.free z))
  show .cons (.int _) (.cons (r1.mono G) .nil)
 stop:=fun F1 H1 a b=>⟨xs,b.seq (a.seq s),by rw[r.length,W5];show Nat.le_refl _⟩
theorem zc1 {es:List Expr}{tk:Nat}{tp:Pos}{a:Expr}{m:ML}{p pos:Pos}(G:Gl X "enumerate")(hm:X.mg "enumerate"=none)(ha:PAs X [a] m)(hs:starEach [a] X.env=[(false,eval a X.env)]:=by rfl):PId X (.Tuple es tk tp) (.Call (.Name "enumerate" p) [a] [] pos) (t9 zg5 m):=PI.imp (zj5 G hm ha hs) fun σ H R i=>by
 let⟨F0,H0,F,ρ,its,z,e,q⟩:=i
 let⟨ds,h1,h2⟩:=U3 e
 show⟨F0,H0,F,ρ,ds,z,h1,fun vs F1 H1 j r1=>?_⟩
 delta zg5 at h2
 split at h2
 .cases h2
  cases r1 with
  |cons r rr=>
   ext rr
   cases r with
   |lst s t=>show⟨_,_,rfl,j.fh.seq s,q _ F1 H1 j (yc7 s t)⟩
 .cases h2
end
end
section
noncomputable def forD (g:Tg)(body:MS):List D->MS
 |[],ρ=>some (.nx ρ)
 |d::ds,ρ=>match tgD g d ρ with
  |some ρ1=>match body ρ1 with
   |some (.nx ρ2)=>forD g body ds ρ2
   |some (.ct ρ2)=>forD g body ds ρ2
   |some (.bk ρ2)=>some (.nx ρ2)
   |o=>o
  |none=>none
noncomputable def mfor (mi:ML)(g:Tg)(body:MS):MS:=fun ρ=>(mi ρ).bind fun its=>forD g body its ρ
theorem g7 {α:Type}{xs:List α}{i:Nat}{d:α}(h:xs[i]? =some d):xs.drop i=d::xs.drop (i+1):=by
 let⟨j,e⟩:=List.getElem?_eq_some_iff.mp h
 rw[drop_eq_getElem_cons j,e]
section
variable {X:Cx}{a b c e:Expr}{ma mb:ME}{pos:Pos}{st:Stmt}{rest:List Stmt}
theorem D8 {tg iter:Expr}{body:List Stmt}{mi:ML}{g:Tg}{mb:MS}(hp:PassesOwn (model X.prog X.w) X.A X.env X.xe)(hc:X.calm=true)(hi:PId X tg iter mi)(hg:PGd X tg g)(hb:PSsd X body mb)
  (hs:∀ x,foldedSetIterable iter X.env x=pure x:=by intro _;rfl):PSd X (.For tg iter body [] pos) (mfor mi g mb):=(zd9 hp hc hi hg hb hs).imp fun Dn σ H a1=>by
 let⟨F0,H0,F,ρ,o,rl,e,ok⟩:=a1
 delta mfor at e
 cases h1:mi ρ with
 |none=>rw[h1]at e;ext e
 |some its=>
  rw[h1]at e
  have e:forD g mb its ρ=some o:=e
  show⟨F0,H0,F,ρ,its,rl,h1,fun J F1 H1 x1 I=>?_⟩
  show⟨fun i m U H'=>∃ F' ρ',Rl X.K F0 H0 F' H' U ρ'/\Same F1 F'/\i<=its.length/\m=its.length-i/\forD g mb (its.drop i) ρ'=some o,⟨_,F1,ρ,rl.go x1,Same.refl _,Nat.zero_le _,rfl,e⟩,?_⟩
  rintro i m U H' ⟨F',ρ',N,sf,a5,rfl,j⟩
  by_cases Y:i<its.length
  .right
   have hd:=getElem?_eq_getElem Y
   show⟨I.go i F' H' sf N.fh Y,fun Z H2=>∃ F2 z,Rl X.K F0 H0 F2 H2 Z z/\Same F1 F2/\forD g mb (its.drop (i+1)) z=some o,?_,fun x H2 y=>?_⟩
   .rintro Z H2 ⟨F2,z,rl2,sf2,e2⟩
    show⟨its.length-(i+1),by lia,F2,z,rl2,sf2,Y,rfl,e2⟩
   .let⟨F2,x2,r2⟩:=I.yld i F' H' x H2 _ sf N.fh hd y
    rw[g7 hd]at j
    unfold forD at j
    cases h2:tgD g its[i] ρ' with
    |none=>simp only[h2]at j;ext j
    |some ρ1=>
     simp only[h2]at j
     show⟨F0,H0,F2,ρ',_,ρ1,N.go x2,r2,h2,fun F3 H3 a4 a3 x3=>?_⟩
     have s3:Same F1 F3:=(sf.trans x2.ff).trans x3.ff
     cases h3:mb ρ1 with
     |none=>simp only[h3]at j;ext j
     |some o1=>
      simp only[h3]at j
      show⟨F0,H0,F3,ρ1,o1,a3,h3,?_⟩
      cases o1 with
      |nx z=>show fun F4 H4 O G s4=>⟨F4,z,G,s3.trans s4,j⟩
      |ct z=>show fun F4 H4 O G s4=>⟨F4,z,G,s3.trans s4,j⟩
      |bk z=>
       ext j
       show fun F4 H4 O G s4=>ok F4 H4 O G ((x1.ff.trans s3).trans s4)
      |rt d=>ext j;show ok
      |rf d=>ext j;show ok
      |rp d ds=>ext j;show ok
      |rg d p r=>ext j;show ok
      |rgf d p r=>ext j;show ok
  .left
   have a2:i=its.length:=by lia
   subst a2
   rw[drop_length]at j
   have j:some (Out.nx ρ')=some o:=j
   ext j
   show⟨I.stop F' H' sf N.fh,ok F' H' U N (x1.ff.trans sf)⟩
end
end
section
noncomputable def V2 (src:List (Option Nat))(ρ:Ro):Ro:=src.map fun o=>o.bind fun i=>match ρ[i]? with |some (some (.sh d))=>some (.sh d)|_=>none
noncomputable def Y1 (g:Tg)(c:MB)(elt:ME):List D->Ro->List D->Option (List D)
 |[],_,acc=>some acc
 |d::ds,ρ,acc=>match tgD g d ρ with
  |some ρ1=>match c ρ1 with
   |some true=>match elt ρ1 with
    |some x=>if acc.length<sizeLine then Y1 g c elt ds ρ1 (acc++[x])else none
    |none=>none
   |some false=>Y1 g c elt ds ρ1 acc
   |none=>none
  |none=>none
@[irreducible] noncomputable def X0 (src:List (Option Nat))(mi:ML)(g:Tg)(c:MB)(elt:ME):ML:=fun ρ=>(mi ρ).bind fun its=>Y1 g c elt its (V2 src ρ) []
noncomputable def NoOwn (ρ:Ro):Prop:=∀(i:Nat) ds,ρ[i]? ≠some (some (.own ds))/\∀ p,ρ[i]? ≠some (some (.ob p ds))
theorem NoOwn.set {ρ:Ro}(h:NoOwn ρ)(i:Nat)(d:D):NoOwn (ρ.set i (some (.sh d))):=fun j ds=>⟨fun e=>by
 by_cases G:i=j
 .subst G
  have I:i<ρ.length:=by
   rcases Nat.lt_or_ge i ρ.length with z|z
   .exact z
   .rw[getElem?_eq_none (by simpa using z)]at e;ext e
  rw[getElem?_set_self I]at e;ext e
 .rw[getElem?_set_ne G]at e;show(h j ds).1 e,fun p e=>(h j ds).2 p (t6 e).2⟩
theorem NoOwn.all:∀(is:List Nat)(ds:List D){ρ ρ':Ro},NoOwn ρ->D5 is ds ρ=some ρ'->NoOwn ρ'
 |[],[],ρ,ρ',h,e=>by ext e;show h
 |[],_::_,_,_,_,e=>by ext e
 |_::_,[],_,_,_,e=>by ext e
 |i::is,d::ds,ρ,ρ',h,e=>NoOwn.all is ds (h.set i d) e
theorem NoOwn.tg {g:Tg}{d:D}{ρ ρ':Ro}(h:NoOwn ρ)(e:tgD g d ρ=some ρ'):NoOwn ρ':=by
 cases g with
 |nm i=>ext e;show h.set i d
 |tp is=>ext d <;> first| (ext e;done)|show NoOwn.all is _ h e
 |nt i is=>
  cases d with
  |tup ds=>
   match ds,e with
   |[d,.tup ds],e=>show NoOwn.all is _ (h.set i d) e
  |_=>ext e
theorem Rl.blk {K:W.Frag}{F0 H0 F H:Hp}{σ:St}{ρ:Ro}(r:Rl K F0 H0 F H σ ρ)(src:List (Option Nat)):Rl K F H F H (blk0 src σ) (V2 src ρ)/\NoOwn (V2 src ρ):=by
 have I:∀(i:Nat) x,(V2 src ρ)[i]? =some (some x)->∃ d,x=S.sh d:=fun i x e=>by
  unfold V2 at e
  rw[getElem?_map]at e
  cases h:src[i]? with
  |none=>rw[h]at e;ext e
  |some o=>
   rw[h]at e
   cases o with
   |none=>ext e
   |some k=>
    simp only[Option.map_some,Option.bind_some]at e
    split at e
    .cases e;show⟨_,rfl⟩
    .cases e
 have G:NoOwn (V2 src ρ):=fun i ds=>⟨fun e=>(by let⟨d,z⟩:=I i _ e;ext z),fun p e=>(by let⟨d,z⟩:=I i _ e;ext z)⟩
 show⟨⟨.refl r.fh,by unfold blk0 V2;simp,fun i d e=>?_,fun i ds e=>absurd e (G i ds).1,fun i j p ds es _ e=>absurd e (G i ds).1,fun i p ds e=>absurd e ((G i ds).2 p),fun i j p ds es e=>absurd e ((G i ds).2 p),fun i j p q ds es e=>absurd e ((G i ds).2 p)⟩,G⟩
 unfold V2 at e
 unfold blk0
 rw[getElem?_map]at e ⊢
 cases h:src[i]? with
 |none=>rw[h]at e;ext e
 |some o=>
  rw[h]at e
  cases o with
  |none=>ext e
  |some k=>
   simp only[Option.map_some,Option.bind_some]at e ⊢
   split at e
   .rename_i d' h'
    ext e
    let⟨v,e1,e2⟩:=r.sh k _ h'
    show⟨v,by rw[e1];rfl,e2⟩
   .cases e
theorem Rl.other {K:W.Frag}{F0 H0 F H:Hp}{σ:St}{ρ:Ro}(r:Rl K F0 H0 F H σ ρ)(j:NoOwn ρ){p:Addr}{o:HO}(G:H0 p=none)(z:F p=none):Rl K F0 H0 F (upd H p o) σ ρ:=
 ⟨⟨r.ext.ff,r.ext.hh.put G,r.ext.fh.put z,r.ext.new,r.ext.nf⟩,r.len,r.sh,fun i ds e=>absurd e (j i ds).1,r.inj,fun i p ds e=>absurd e ((j i ds).2 p),r.obn,r.ob1⟩
theorem Rl.rebase {K:W.Frag}{F1 F H:Hp}{σ:St}{ρ:Ro}{p:Addr}{xs ys:List V}(r:Rl K F1 (upd F1 p (.lst xs)) F H σ ρ)(G:F p=none)(I:F1 p=none):Rl K F1 (upd F1 p (.lst ys)) F (upd H p (.lst ys)) σ ρ:=by
 have ne:∀ q,upd F1 p (.lst xs) q=none->q≠p:=fun q z w=>by rw[w,y3]at z;ext z
 show⟨⟨r.ext.ff,fun b u e=>?_,r.fh.put G,fun b e n=>?_,r.ext.nf⟩,r.len,r.sh,fun i ds e=>?_,r.inj,fun i q ds e=>?_,r.obn,r.ob1⟩
 .by_cases hb:b=p
  .subst hb;rw[y3]at e ⊢;show e
  .rw[y4 hb]at e ⊢
   show r.ext.hh b u (by rw[y4 hb];show e)
 .have hb:b≠p:=fun w=>by rw[w,G]at n;show n rfl
  rw[y4 hb];show e
 .let⟨q,zs,a,b,c,d,z⟩:=r.own i ds e
  have j:=ne q z
  rw[y4 j]at z
  show⟨q,zs,a,b,by rw[y4 j];show c,d,by rw[y4 j];show z⟩
 .let⟨a,b,z,zs,c,d⟩:=r.ob i q ds e
  have j:=ne q z
  rw[y4 j]at z
  show⟨a,b,by rw[y4 j];show z,zs,by rw[y4 j];show c,d⟩
theorem Ext.acc {F H F' H':Hp}{p:Addr}{o:HO}(x:Ext F H F' H')(hp:H p=none)(i:F' p=none):Ext F H F' (upd H' p o):=⟨x.ff,x.hh.put hp,x.fh.put i,x.new,x.nf⟩
theorem Ext.stay {F' H' z I:Hp}{p:Addr}{o:HO}(G:Ext F' H' z I)(j:F' p=none)(i:H' p=some o):z p=none:=by
 cases qq:z p with
 |none=>rfl
 |some u=>have:=G.new p j (by rw[qq];simp);rw[this]at i;ext i
theorem Rl.noB {K:W.Frag}{F H:Hp}{σ:St}{ρ:Ro}{p:Addr}(r:Rl K F H F H σ ρ)(j:NoOwn ρ)(hp:H p=none):Rl K F (upd F p (.lst [])) F (upd H p (.lst [])) σ ρ:=
 ⟨⟨Same.refl F,r.fh.put2,r.fh.put (r.fh.free hp),fun b e n=>absurd e n,fun _ _ _ z=>z⟩,r.len,r.sh,fun i ds e=>absurd e (j i ds).1,r.inj,fun i p ds e=>absurd e ((j i ds).2 p),r.obn,r.ob1⟩
theorem yw4 {g:Tg}{c:MB}{i:ME}{d:D}{ds acc out:List D}{ρ:Ro}(h:Y1 g c i (d::ds) ρ acc=some out):∃ ρ1,tgD g d ρ=some ρ1/\((c ρ1=some false/\Y1 g c i ds ρ1 acc=some out)\/∃ x,c ρ1=some true/\i ρ1=some x/\acc.length<sizeLine/\Y1 g c i ds ρ1 (acc++[x])=some out):=by
 rw[Y1]at h
 cases h2:tgD g d ρ with
 |none=>rw[h2]at h;ext h
 |some ρ1=>
  rw[h2]at h
  simp only at h
  show⟨ρ1,rfl,?_⟩
  cases h3:c ρ1 with
  |none=>rw[h3]at h;ext h
  |some k=>
   rw[h3]at h
   cases k with
   |false=>show .inl ⟨rfl,h⟩
   |true=>
    simp only at h
    cases h4:i ρ1 with
    |none=>rw[h4]at h;ext h
    |some x=>
     rw[h4]at h
     simp only at h
     by_cases j:acc.length<sizeLine
     .rw[if_pos j]at h;show .inr ⟨x,rfl,rfl,j,h⟩
     .rw[if_neg j]at h;ext h
theorem zz0 {K:PySem.W.Frag}{src:List (Option Nat)}{g:Tg}{c:MB}{a6:ME}{its out:List D}{F1 H1:Hp}{σ:St}{ρb:Ro}{p:Addr}{J:It}{Q:VK}(f1:Same F1 H1)(hp:H1 p=none)(rb:Rl K F1 (upd F1 p (.lst [])) F1 (upd H1 p (.lst [])) (blk0 src σ) ρb)(I:ItD K F1 J its)(e:Y1 g c a6 its ρb []=some out)
  (q:∀ xs F' H',Ext F1 H1 F' H'->F' p=none->H' p=some (.lst xs)->Reps K F' xs out->Q (.ref p) H'):
  ∃ W:Nat->Nat->St->Hp->Prop,(∃ m,W 0 m (blk0 src σ) (upd H1 p (.lst [])))/\∀ i m O H',W i m O H'->
   (J.stop i H'/\Q (.ref p) H')\/(J.go i H'/\∃ N:St->Hp->Prop,(∀ G H2,N G H2->∃ m',m'<m/\W (i+1) m' G H2)/\∀ x H2,J.yld i H' x H2->TGd K g x O H2 fun z H3=>TC K c z H3 fun b H4=>
    if b=true then TD K a6 z H4 fun y H5=>∃ xs,H5 p=some (.lst xs)/\xs.length<sizeLine/\N z (upd H5 p (.lst (xs++[y])))else N z H4):=by
 have a7:F1 p=none:=f1.free hp
 show⟨fun i m O H'=>∃ F' ρ' acc xs,Rl K F1 (upd F1 p (.lst xs)) F' H' O ρ'/\Ext F1 H1 F' H'/\H' p=some (.lst xs)/\F' p=none/\Reps K F' xs acc/\i<=its.length/\m=its.length-i/\Y1 g c a6 (its.drop i) ρ' acc=some out,
  ⟨_,F1,ρb,[],[],rb,(Ext.refl f1).acc hp a7,y3,a7,.nil,Nat.zero_le _,rfl,e⟩,?_⟩
 clear rb e
 rintro i m O H' ⟨F',ρ',acc,xs,a5,xe,a1,a8,ra,ab,rfl,e'⟩
 by_cases Z:i<its.length
 .right
  have hd:=getElem?_eq_getElem Z
  show⟨I.go i F' H' xe.ff a5.fh Z,fun G H2=>∃ F2 a2 j U,Rl K F1 (upd F1 p (.lst U)) F2 H2 G a2/\Ext F1 H1 F2 H2/\H2 p=some (.lst U)/\F2 p=none/\Reps K F2 U j/\Y1 g c a6 (its.drop (i+1)) a2 j=some out,?_,fun x H2 y=>?_⟩
  .rintro G H2 ⟨F2,a2,j,U,b1,b2,b3,b4,b5,b6⟩
   show⟨its.length-(i+1),Nat.sub_lt_sub_left Z (Nat.lt_succ_self i),F2,a2,j,U,b1,b2,b3,b4,b5,Z,rfl,b6⟩
  .let⟨F2,x2,r2⟩:=I.yld i F' H' x H2 _ xe.ff a5.fh hd y
   rw[g7 hd]at e'
   let⟨ρ1,h2,e3⟩:=yw4 e'
   clear e' I q y hd
   show⟨F1,_,F2,ρ',_,ρ1,a5.go x2,r2,h2,fun F3 H3 z Y x3=>?_⟩
   have a9:=x2.trans x3
   rcases e3 with⟨h3,e4⟩|⟨d,h3,h4,hz,e4⟩
   .refine⟨F1,_,F3,ρ1,false,Y,h3,fun F4 H4 x4=>?_⟩
    have a4:=a9.trans x4
    show iteF ⟨F4,ρ1,acc,xs,Y.go x4,xe.trans a4,a4.hh _ _ a1,a4.stay a8 a1,ra.mono a4.ff,e4⟩
   .refine⟨F1,_,F3,ρ1,true,Y,h3,fun F4 H4 x4=>iteT ⟨F1,_,F4,ρ1,d,Y.go x4,h4,fun v F5 H5 x5 r5=>?_⟩⟩
    have a3:=(a9.trans x4).trans x5
    have pn:=a3.stay a8 a1
    show⟨xs,a3.hh _ _ a1,by rw[ra.length];show hz,F5,ρ1,acc++[d],xs++[v],((Y.go x4).go x5).rebase pn a7,(xe.trans a3).acc hp pn,y3,pn,(ra.mono a3.ff).append (.cons r5 .nil),e4⟩
 .left
  have aa:i=its.length:=Nat.le_antisymm ab (Nat.le_of_not_lt Z)
  subst aa
  rw[drop_length]at e'
  have e':some acc=some out:=e'
  ext e'
  show⟨I.stop F' H' xe.ff a5.fh,q xs F' H' xe a8 a1 ra⟩
section
variable {X:Cx}{a b c e:Expr}{ma mb:ME}{pos:Pos}{st:Stmt}{rest:List Stmt}
noncomputable def PTsd (X:Cx)(ifs:List Expr)(c:MB):Prop:=PTs X ifs (TC X.K c)
noncomputable def cyes:MB:=fun _=>some true
theorem W3:PTsd X [] cyes:=fun pins s σ H Q I i=>by
 let⟨F0,H0,F,ρ,b,j,e,q⟩:=i
 ext e
 show zv3 pins s σ H Q I (q F H (.refl j.fh))
theorem Y0 {ca:MB}(h:PC' X c ca):PTsd X [c] ca:=xv6 h
theorem yk9 {K:W.Frag}{src:List (Option Nat)}{z:ML}{g:Tg}{c:MB}{i:ME}{σ:St}{H:Hp}{Q:VK}(h:TF K (X0 src z g c i) σ H Q):M5 src (TId K z) (TGd K g) (TC K c) (TD K i) σ H Q:=by
 let⟨F0,H0,F,ρ,out,O,e,q⟩:=h
 delta X0 at e
 cases h1:z ρ with
 |none=>rw[h1]at e;ext e
 |some its=>
  rw[h1]at e
  show⟨F0,H0,F,ρ,its,O,h1,fun J F1 H1 j I p hp=>?_⟩
  let⟨rb,Y⟩:=(O.go j).blk src
  show zz0 j.fh hp (rb.noB Y hp) I e fun xs F' H' xe N G U=>q p xs F' H' (j.trans xe) (j.hh.free hp) N G U
theorem R6 {sc:Scope}{N:List Str}{src:List (Option Nat)}{tg j iter:Expr}{i:List Expr}{G:ML}{g:Tg}{cc:MB}{z:ME}(B:Blk X sc N src)(Y:X.calm=true)
  (hi:PId X tg iter G) (O:∀ C fp s H,PGd (d4 X sc C N fp s H) tg g) (I:∀ C fp s H,PTsd (d4 X sc C N fp s H) i cc) (U:∀ C fp s H,PD (d4 X sc C N fp s H) j z)
  (hs:∀ x,foldedSetIterable iter X.env x=pure x:=by intro _;rfl):
  PF X (.ListComp j [⟨tg,iter,i,0⟩] sc pos) (X0 src G g cc z):=(C2 (g:=TGd X.K g) (tc:=TC X.K cc) (te:=TD X.K z) B Y hi (fun C fp s H=>O C fp s H) (fun C fp s H=>I C fp s H) (fun C fp s H=>U C fp s H) hs).imp fun _ _ _ h=>yk9 h
theorem xj9 {mf:ML}{σ:St}{H:Hp}{Q:VK}(h:TD X.K (mlst mf) σ H Q):TF X.K mf σ H Q:=by
 let⟨F0,H0,F,ρ,d,r,e,q⟩:=h
 delta mlst at e
 cases hm:mf ρ with
 |none=>rw[hm]at e;ext e
 |some ds=>
  rw[hm]at e;ext e
  show⟨F0,H0,F,ρ,ds,r,hm,fun p xs F' H' x hp i z j=>?_⟩
  show q _ (upd F' p (.lst xs)) H' (x.freeze i hp z) (.lst (SqL.of y3) (j.mono ((Same.refl F').put i)))
theorem zr4 {i:Nat}{src:List (Option Nat)}{j:ML}{g:Tg}{cc:MB}{z:ME}(h:PS X st (tAsg (M5 src (TId X.K j) (TGd X.K g) (TC X.K cc) (TD X.K z)) (X3 i))):PSd X st (mset i (mlst (X0 src j g cc z))):=xd9 h fun _ _ _ q=>yk9 (xj9 q)
noncomputable def R1 (c:MB)(body:MS):Nat->MS
 |0,_=>none
 |n+1,ρ=>match c ρ with
  |some true=>match body ρ with
   |some (.nx ρ2)=>R1 c body n ρ2
   |some (.ct ρ2)=>R1 c body n ρ2
   |some (.bk ρ2)=>some (.nx ρ2)
   |o=>o
  |some false=>some (.nx ρ)
  |none=>none
theorem zr3 {body:List Stmt}{ca:MB}{mb:MS}(n:Nat)(hp:PassesOwn (model X.prog X.w) X.A X.env X.xe)(hc:PC' X c ca)(hb:PSsd X body mb):PSd X (.While c body [] pos) (R1 ca mb n):=(yf0 hp hc hb).imp fun Dn σ H Y=>by
 let⟨F0,H0,F,ρ,o,rl,e,ok⟩:=Y
 show⟨fun m I H'=>∃ F' ρ',Rl X.K F0 H0 F' H' I ρ'/\Same F F'/\R1 ca mb m ρ'=some o,⟨n,F,ρ,rl,Same.refl _,e⟩,?_⟩
 rintro m I H' ⟨F',ρ',N,sf,j⟩
 cases m with
 |zero=>ext j
 |succ m=>
  unfold R1 at j
  cases h1:ca ρ' with
  |none=>simp only[h1]at j;ext j
  |some k=>
   show⟨F0,H0,F',ρ',k,N,h1,fun F1 H1 x1=>?_⟩
   cases k with
   |false=>
    simp only[h1]at j
    ext j
    show iteF (ok F1 H1 I (N.go x1) (sf.trans x1.ff))
   |true=>
    simp only[h1]at j
    show iteT ⟨fun O H2=>∃ F2 i,Rl X.K F0 H0 F2 H2 O i/\Same F F2/\R1 ca mb m i=some o,fun O H2 zQ=>by let⟨F2,i,a1,a2,a3⟩:=zQ;show ⟨m,Nat.lt_succ_self m,F2,i,a1,a2,a3⟩,?_⟩
    cases h2:mb ρ' with
    |none=>simp only[h2]at j;ext j
    |some o1=>
     simp only[h2]at j
     show⟨F0,H0,F1,ρ',o1,N.go x1,h2,?_⟩
     have s1:=sf.trans x1.ff
     cases o1 with
     |nx i=>show fun Z H4 G z U=>⟨Z,i,z,s1.trans U,j⟩
     |ct i=>show fun Z H4 G z U=>⟨Z,i,z,s1.trans U,j⟩
     |bk i=>ext j;show fun Z H4 G z U=>ok Z H4 G z (s1.trans U)
     |rt d=>ext j;show ok
     |rf d=>ext j;show ok
     |rp d ds=>ext j;show ok
     |rg d p r=>ext j;show ok
     |rgf d p r=>ext j;show ok
inductive Rt where
 |sh (d:D)|fr (ds:List D)|pr (d:D) (ds:List D)
noncomputable abbrev MF:=List D->Option Rt
noncomputable def okT (K:W.Frag)(F H:Hp)(Q:VK):Rt->Prop
 | .sh d=>∀ v F' H',Ext F H F' H'->Rep K F' v d->Q v H'
 | .fr ds=>∀ p xs F' H',Ext F H F' H'->H p=none->F' p=none->H' p=some (.lst xs)->Reps K F' xs ds->Q (.ref p) H'
 | .pr d ds=>∀ t v p xs F' H',Ext F H F' H'->H t=none->H p=none->t≠p->F' t=none->F' p=none->H' t=some (.tup [v,.ref p])->H' p=some (.lst xs)->Rep K F' v d->Reps K F' xs ds->Q (.ref t) H'
noncomputable def spR (K:W.Frag)(n:Nat)(m:MF):Sp:=fun vs H Q _=>vs.length=n/\∃ F ds r,Same F H/\Reps K F vs ds/\m ds=some r/\okT K F H Q r
noncomputable def u0 (n:Nat)(ds:List D):Ro:=ds.map (fun d=>some (.sh d))++List.replicate (n-ds.length) none
noncomputable def runB (n:Nat)(m:MS):MF:=fun ds=>match m (u0 n ds)with
 |some (.nx _)=>some (.sh .non)
 |some (.rt d)=>some (.sh d)
 |some (.rf es)=>some (.fr es)
 |some (.rp d es)=>some (.pr d es)
 |_=>none
theorem G9 {K:W.Frag}{F H:Hp}{N:List Str}{vs:List V}{ds:List D}(s:Same F H)(r:Reps K F vs ds):Rl K F H F H (V3 N vs) (u0 N.length ds):=by
 have get:∀(i:Nat) x,(u0 N.length ds)[i]? =some (some x)->∃ d,x=S.sh d/\ds[i]? =some d:=fun i x e=>by
  delta u0 at e
  by_cases hi:i<ds.length
  .rw[getElem?_append_left (by simpa using hi),getElem?_map]at e
   cases q:ds[i]? with
   |none=>rw[q]at e;ext e
   |some d=>rw[q]at e;ext e;show⟨d,rfl,rfl⟩
  .rw[getElem?_append_right (by simpa using hi),getElem?_replicate]at e
   split at e <;> ext e
 show⟨.refl s,?_,fun i d e=>?_,fun i ds e=>?_,fun i j p ds es _ e=>?_,fun i p ds e=>?_,fun i j p ds es e=>?_,fun i j p q ds es e=>?_⟩
 .delta V3 u0;simp[r.length]
 .let⟨d',e1,e2⟩:=get i _ e
  ext e1
  let⟨v,e3,G⟩:=r.get e2
  have z:i<vs.length:=(List.getElem?_eq_some_iff.mp e3).1
  show⟨v,?_,G⟩
  delta V3
  rw[getElem?_append_left (by simpa using z),getElem?_map,e3];rfl
 .let⟨d',e1,_⟩:=get i _ e
  ext e1
 .let⟨d',e1,_⟩:=get i _ e
  ext e1
 .let⟨d',e1,_⟩:=get i _ e
  ext e1
 .let⟨d',e1,_⟩:=get i _ e
  ext e1
 .let⟨d',e1,_⟩:=get i _ e
  ext e1
theorem Fun.okD {P:Program}{w:World}{K:W.Frag}{mg:Str->Option Value}{base:Heap}{x qual:Str}{st:Stmt}{f:Addr}{fd:FuncData}{N ps:List Str}{k:Nat}{m:MS}(U:Fun K x qual st f fd)(O:FnScope N ps (z9 st))
  (i:∀(cdv:Value)(A:Around)(outer:List Env)(s:Shared)(H:Hp)(E:XK),Room k (A.deeper (envOfC qual (z9 st) s.heap.objs.size f cdv))->PSsd (cxOf CX0 P w K mg base N qual (z9 st) f cdv A outer s H E).nox (d7 st) m):
  FnOk P w K mg base CX0 (k+1) f fd ps (spR K ps.length (runB N.length m)):=by
 show U.ok O (fun vs H Q E h=>h.1) fun cdv A outer s H vs Q E hr h=>?_
 let⟨Y,F,ds,r,z,G,e,ok⟩:=h
 delta runB at e
 cases h1:m (u0 N.length ds)with
 |none=>rw[h1]at e;ext e
 |some o=>
  rw[h1]at e
  show⟨_,i cdv A outer s H E hr,F,H,F,u0 N.length ds,o,G9 z G,h1,?_⟩
  cases o with
  |nx ρ=>ext e;show fun F' H' j I _=>ok .non F' H' I.ext .non
  |rt d=>ext e;show ok
  |rf es=>ext e;show ok
  |rp d es=>ext e;show ok
  |rg d p r=>ext e
  |rgf d p r=>ext e
  |bk ρ=>ext e
  |ct ρ=>ext e
@[irreducible] noncomputable def n4 (f:MF)(m:ML):ME:=fun ρ=>(m ρ).bind fun ds=>match f ds with |some (.sh d)=>some d|some (.fr es)=>some (.lst es)|some (.pr d es)=>some (.tup [d,.lst es])|none=>none
variable {E:XK}{es:List Expr}{mf:MF}{m:ML}
theorem u5 {n:Nat}(h:∀ t,PA X es t->PE X e (zk3 (spR X.K n mf) [] E t))(hl:es.length=n)(ha:PAs X es m)(hm:∀ ρ ds,m ρ=some ds->ds.length=es.length):PD X e (n4 mf m):=(h _ ha).imp fun σ H Q G=>by
 let⟨F0,H0,F,ρ,d,rl,e,q⟩:=G
 delta n4 at e
 cases h1:m ρ with
 |none=>rw[h1]at e;ext e
 |some ds=>
  rw[h1]at e
  show⟨F0,H0,F,ρ,ds,rl,h1,fun vs F1 H1 j r1=>?_⟩
  dsimp only[Option.bind]at e
  show spR X.K n mf (vs++[]) H1 Q E
  rw[append_nil]
  show⟨by rw[r1.length,hm ρ ds h1,hl],F1,ds,?_⟩
  split at e
  .rename_i d' h2
   ext e
   show⟨_,j.fh,r1,h2,fun v F2 H2 z r2=>q v F2 H2 (j.trans z) r2⟩
  .rename_i es' h2
   ext e
   show⟨_,j.fh,r1,h2,fun p xs F2 H2 z hp hF hH r2=>q _ (upd F2 p (.lst xs)) H2 (j.trans (z.freeze hF hp hH)) (.lst (SqL.of y3) (r2.mono ((Same.refl F2).put hF)))⟩
  .rename_i d' es' h2
   ext e
   show⟨_,j.fh,r1,h2,fun t v p xs F2 H2 z ht hp I Y N O U rv rs=>?_⟩
   have x3:=z.freeze N hp U
   have i:upd F2 p (.lst xs) t=none:=by rw[y4 I];show Y
   have s2:Same F2 (upd F2 p (.lst xs)):=(Same.refl F2).put N
   have Z:Same (upd F2 p (.lst xs)) (upd (upd F2 p (.lst xs)) t (.tup [v,.ref p])):=(Same.refl _).put i
   show q _ (upd (upd F2 p (.lst xs)) t (.tup [v,.ref p])) H2 (j.trans (x3.freeze i ht O)) (.tup (SqT.of y3) (.cons (rv.mono (s2.trans Z)) (.cons (.lst (SqL.of (by rw[y4 (Ne.symm I)];show y3)) (rs.mono (s2.trans Z))) .nil)))
  .cases e
theorem W7 (ρ:Ro)(ds:List D)(h:anil ρ=some ds):ds.length=0:=by ext h;rfl
theorem zz4 {x:ME}{r:ML}{n:Nat}(hr:∀ ρ ds,r ρ=some ds->ds.length=n)(ρ:Ro)(ds:List D)(h:z5 x r ρ=some ds):ds.length=n+1:=by
 let⟨d,es,_,h2,rfl⟩:=zx8 h
 rw[length_cons,hr ρ es h2]
end
end
section
section
variable {X:Cx}{a b c e:Expr}{ma mb:ME}{pos:Pos}
noncomputable def bl2 (g:Bool->Bool->Bool):D->D->Option D
 | .bl i,.bl j=>some (.bl (g i j))
 |_,_=>none
noncomputable def xa8:List V->Hp->VK->Prop:=fun vs H Q=>∃ j:Int,vs=[.int j]/\∀ p,H p=none->Q (.ref p) (upd H p (.rng 0 j))
theorem yj3:G7 X (.type "range") xa8:=by
 intro pins s σ H xs us Q I r h
 let⟨j,rfl,q⟩:=h
 let⟨u,rfl,t,rfl⟩:=P6 r
 show call_range_1 ⟨.ref s.heap.objs.size,_,I.laid (o:=.rng 0 j) (fun b o e=>Heap.get?_push_of_some _ e) (Nat.le_refl _) ⟨_,_,_,Heap.get?_push_size _ rfl⟩,rfl,q _ I.fresh⟩
theorem D7 {K:W.Frag}{F:Hp}:∀ ns:List Int,Reps K F (ns.map V.int) (ns.map D.int)
 |[]=>.nil
 |n::ns=>.cons (.int n) (D7 ns)
theorem xk3 {K:W.Frag}{m:MF}(h:∀ ns:List Int,ns.length<=63->m [.lst (ns.map .int)]=some (.sh (.bl true)))(H:Hp)(a:Addr)(ns:List Int)(i:ns.length<=63)(j:SqL K H a (ns.map V.int))(E:XK):
  spR K 1 m [.ref a] H (fun v _=>v= .bl true) E:=
 ⟨rfl,H,_,_,Same.refl H,.cons (.lst j (D7 ns)) .nil,h ns i,fun v F' H' _ r=>by ext r;rfl⟩
end
end
section
noncomputable def xd7 (fsc:Scope)(fN:List Str)(sc:Scope)(N:List Str)(src:List (Option Nat)):Bool:=
 (sc.kind== .function)&&sc.names.all (fun y=>y.2 != .cell)&&sc.names.all (fun y=>y.2 != .local || sc.names.lookup y.1==some .local)
  &&sc.names.all (fun y=>y.2 != .free || (fsc.names.lookup y.1==some .cell || fsc.names.lookup y.1==some .free))&&(src.length==N.length)
  &&(List.range src.length).all fun j=>match src[j]? with
   |some (some i)=>match N[j]? with
    |some x=>fN[i]? ==some x&&sc.names.lookup x==some .free
    |none=>false
   |_=>true
theorem e7 {X:Cx}{sc:Scope}{N:List Str}{src:List (Option Nat)}(G:Scope)(U:List Str)(h1:X.env.scope=G)(h2:X.N=U)(h:xd7 G U sc N src=true):Blk X sc N src:=by
 delta xd7 at h
 simp only[Bool.and_eq_true,all_eq_true,beq_iff_eq,Bool.or_eq_true,bne_iff_ne,ne_eq]at h
 let⟨⟨⟨⟨⟨a1,a2⟩,a3⟩,a4⟩,Z⟩,Y⟩:=h
 show⟨a1,a2,fun y I O=>?_,fun y I O=>?_,fun j i e=>?_,Z⟩
 .rcases a3 y I with z|z
  .exact absurd O z
  .exact z
 .have k:∀ x,X.env.kindOf x=G.names.lookup x:=fun x=>by rw[<-h1];rfl
  rw[k]
  rcases a4 y I with z|z
  .exact absurd O z
  .exact z
 .have hj:j<src.length:=(List.getElem?_eq_some_iff.mp e).1
  have:=Y j (List.mem_range.mpr hj)
  rw[e]at this
  simp only at this
  cases hx:N[j]? with
  |none=>rw[hx]at this;ext this
  |some x=>
   rw[hx]at this
   simp only[Bool.and_eq_true,beq_iff_eq]at this
   show⟨x,rfl,by rw[h2];show this.1,this.2⟩
end
section
theorem yf3 {X:Cx}{a:Expr}{i:ML}{lo hi:Option Expr}{l h:MO}{p2 pos:Pos}(ha:PB X a i)(j:POs X lo l)(hh:POs X hi h):PF X (.Subscript a (.Slice lo hi none p2) pos) (mcut i l h):=xi0 ha j hh (yf5 xw5 ha j hh)
end
section
noncomputable def zipE (f:D->D->Option Bool):List D->List D->Option Bool
 |d::ds,e::es=>(f d e).bind fun a=>(zipE f ds es).bind fun b=>some (a&&b)
 |_,_=>some true
noncomputable def eqF:Nat->D->D->Option Bool
 |0,_,_=>none
 |n+1,.lst ds,.lst es=>if ds.length=es.length then zipE (eqF n) ds es else some false
 |n+1,.tup ds,.tup es=>(zipE (eqF n) ds es).map fun b=>b&&ds.length==es.length
 |_+1,d,e=>eqS d e
theorem zw1 {f:D->D->Option Bool}:∀{ds es:List D}{k:Bool},zipE f ds es=some k->∃ g:Nat->Bool,(∀ j d e,ds[j]? =some d->es[j]? =some e->f d e=some (g j))/\k=(List.range (min ds.length es.length)).all g
 |[],es,k,h=>by
  have h:some true=some k:=by simpa[zipE]using h
  ext h
  show⟨fun _=>true,by simp,by simp⟩
 |_::_,[],k,h=>by
  have h:some true=some k:=by simpa[zipE]using h
  ext h
  show⟨fun _=>true,by simp,by simp⟩
 |d::ds,e::es,k,h=>by
  unfold zipE at h
  cases h1:f d e with
  |none=>rw[h1]at h;ext h
  |some a=>
   rw[h1]at h
   cases h2:zipE f ds es with
   |none=>rw[h2]at h;ext h
   |some b=>
    rw[h2]at h
    have h:some (a&&b)=some k:=h
    ext h
    let⟨g,z,i⟩:=zw1 h2
    show⟨fun j=>match j with |0=>a|j+1=>g j,?_,?_⟩
    .intro j d' e' hd he
     cases j with
     |zero=>simp at hd he;subst hd he;show h1
     |succ j=>show z j d' e' (by simpa using hd) (by simpa using he)
    .rw[i,length_cons,length_cons,Nat.add_min_add_right,range_succ_eq_map,all_cons,all_map]
     rfl
section
variable {X:Cx}{pins:List (Addr×Obj)}{σ:St}{H:Hp}{s:Shared}
theorem D2 {f:D->D->Option Bool}(i:∀{v:V}{d e:D}{k:Bool},Rep X.K H v d->Rep X.K H v e->f d e=some k->k=true):∀{vs:List V}{ds es:List D}{k:Bool},Reps X.K H vs ds->Reps X.K H vs es->zipE f ds es=some k->k=true
 |_,_,_,_,.nil,.nil,h=>by simp[zipE]at h;show h
 |_::_,d::ds,e::es,k,.cons r1 s1,.cons r2 s2,h=>by
  unfold zipE at h
  cases h1:f d e with
  |none=>rw[h1]at h;ext h
  |some a=>
   rw[h1]at h
   cases h2:zipE f ds es with
   |none=>rw[h2]at h;ext h
   |some b=>
    rw[h2]at h
    have h:some (a&&b)=some k:=h
    ext h
    rw[i r1 r2 h1,D2 i s1 s2 h2];rfl
theorem Rep.eqT (I:Inv X pins σ H s):∀(n:Nat){v:V}{d e:D}{k:Bool},Rep X.K H v d->Rep X.K H v e->eqF n d e=some k->k=true
 |0,_,_,_,_,_,_,h=>by simp[eqF]at h
 |n+1,v,d,e,k,r1,r2,h=>by
  cases r1 with
  |non=>ext r2;show(Option.some.inj (show some true=some k from h)).symm
  |bl b=>ext r2;show(Option.some.inj (show some (b==b)=some k from h)).symm.trans (beq_self_eq_true b)
  |int b=>ext r2;show(Option.some.inj (show some (b==b)=some k from h)).symm.trans (beq_self_eq_true b)
  |str b=>ext r2;show(Option.some.inj (show some (b==b)=some k from h)).symm.trans (beq_self_eq_true b)
  |lst G z=>
   cases r2 with
   |lst j i=>
    have e:=I.list_inj G j
    subst e
    simp only[eqF]at h
    split at h
    .exact D2 (fun a b c=>Rep.eqT I n a b c) z i h
    .rename_i hl;show absurd (z.length.symm.trans i.length) hl
   |_=>ext h
  |tup G z=>
   cases r2 with
   |tup j i=>
    have e:=I.tuple_inj G j
    subst e
    simp only[eqF]at h
    cases hz:zipE (eqF n) _ _ with
    |none=>rw[hz]at h;ext h
    |some N=>
     rw[hz]at h
     have h:=Option.some.inj h
     rw[<-h,D2 (fun a b c=>Rep.eqT I n a b c) z i hz,z.length.symm.trans i.length]
     simp
   |_=>ext h
  |_=>ext h
open PySem.SeqAt in
theorem xd1 {K:W.Frag}{H:Hp}{A:Around}{s:Shared}{x y:V}{v u:Value}{d e:D}{k:Bool}(r1:Rep K H x d)(r2:Rep K H y e)(z:RelV x v)(j:RelV y u)(h:eqS d e=some k):EqAt A s v u k/\RcAt A s v u k/\RcNeAt A s v u (!k):=by
 let⟨k',G⟩:=yk3 d e k h
 rw[yb4 h r1]at z
 rw[yb4 G r2]at j
 clear r1 r2 G
 cases d with
 |non=>
  ext z
  cases e with
  |non=>ext j;ext h;show⟨EqAt.same _,.none_none,.none_none⟩
  |bl b=>ext j;ext h;show⟨.none_bool _,.none_bool _,.none_bool _⟩
  |int b=>let⟨t,rfl⟩:=j;ext h;show⟨.none_int _ _,.none_int _ _,.none_int _ _⟩
  |str b=>let⟨t,rfl⟩:=j;ext h;show⟨.none_str _ _,.none_str _ _,.none_str _ _⟩
  |_=>ext h
 |bl i=>
  ext z
  cases e with
  |non=>ext j;ext h;show⟨.bool_none _,.bool_none _,.bool_none _⟩
  |bl b=>ext j;ext h;show⟨.bool_bool _ _,.bool_bool _ _,.bool_bool _ _⟩
  |str b=>let⟨t,rfl⟩:=j;ext h;show⟨.bool_str _ _ _,.bool_str _ _ _,.bool_str _ _ _⟩
  |_=>ext h
 |int i=>
  let⟨I,rfl⟩:=z
  cases e with
  |non=>ext j;ext h;show⟨.int_none _ _,.int_none _ _,.int_none _ _⟩
  |int b=>let⟨t,rfl⟩:=j;ext h;show⟨.int_int _ _ _ _,.int_int _ _ _ _,.int_int _ _ _ _⟩
  |str b=>let⟨t,rfl⟩:=j;ext h;show⟨.int_str _ _ _ _,.int_str _ _ _ _,.int_str _ _ _ _⟩
  |_=>ext h
 |str i=>
  let⟨I,rfl⟩:=z
  cases e with
  |non=>ext j;ext h;show⟨.str_none _ _,.str_none _ _,.str_none _ _⟩
  |bl b=>ext j;ext h;show⟨.str_bool _ _ _,.str_bool _ _ _,.str_bool _ _ _⟩
  |int b=>let⟨t,rfl⟩:=j;ext h;show⟨.str_int _ _ _ _,.str_int _ _ _ _,.str_int _ _ _ _⟩
  |str b=>let⟨t,rfl⟩:=j;ext h;show⟨.str_str _ _ _ _,.str_str _ _ _ _,.str_str _ _ _ _⟩
  |_=>ext h
 |_=>ext h
theorem xq9 {n:Nat}{d e:D}{k:Bool}(h:eqF (n+1) d e=some k):eqS d e=some k\/(∃ ds es,d= .lst ds/\e= .lst es/\(if ds.length=es.length then zipE (eqF n) ds es else some false)=some k)\/∃ ds es i,d= .tup ds/\e= .tup es/\zipE (eqF n) ds es=some i/\(i&&ds.length==es.length)=k:=by
 cases d with
 |lst ds=>
  cases e with
  |lst es=>show .inr (.inl ⟨ds,es,rfl,rfl,h⟩)
  |_=>show .inl h
 |tup ds=>
  cases e with
  |tup es=>
   have h:((zipE (eqF n) ds es).map fun b=>b&&ds.length==es.length)=some k:=h
   cases hz:zipE (eqF n) ds es with
   |none=>rw[hz]at h;ext h
   |some i=>rw[hz]at h;show .inr (.inr ⟨ds,es,i,rfl,rfl,hz,Option.some.inj h⟩)
  |_=>show .inl h
 |_=>show .inl h
theorem za2 {K:W.Frag}{H:Hp}{A:Around}{s:Shared}{n:Nat}{xs ys:List V}{ds es:List D}{its i:List Value}{g:Nat->Bool}(ih:∀{x y:V}{v u:Value}{d e:D}{k:Bool},Rep K H x d->Rep K H y e->RelV x v->RelV y u->eqF n d e=some k->PySem.SeqAt.EqAt A s v u k)(rs:Reps K H xs ds)(G:Reps K H ys es)(vr:Vals xs its)(z:Vals ys i)
  (g1:∀(j:Nat) d e,ds[j]? =some d->es[j]? =some e->eqF n d e=some (g j)) (j:Nat) (h1:j<its.toArray.size) (h2:j<i.toArray.size):PySem.SeqAt.EqAt A s its.toArray[j] i.toArray[j] (g j):=by
 have z1:its.length=ds.length:=by rw[<-vr.length,rs.length]
 have z2:i.length=es.length:=by rw[<-z.length,G.length]
 simp only[size_toArray]at h1 h2
 obtain⟨d',O⟩:∃ d',ds[j]? =some d':=⟨_,getElem?_eq_getElem (z1 ▸ h1)⟩
 obtain⟨e',N⟩:∃ e',es[j]? =some e':=⟨_,getElem?_eq_getElem (z2 ▸ h2)⟩
 let⟨v',a1,U⟩:=rs.get O
 let⟨u',a2,Y⟩:=G.get N
 let⟨p,hp,rp⟩:=vr.get a1
 let⟨p2,I,Z⟩:=z.get a2
 have e1:its.toArray[j]=p:=by
  rw[getElem?_eq_getElem h1]at hp
  simpa using hp
 have e2:i.toArray[j]=p2:=by
  rw[getElem?_eq_getElem h2]at I
  simpa using I
 rw[e1,e2]
 show ih U Y rp Z (g1 j d' e' O N)
open PySem.SeqAt in
theorem yk2 (I:Inv X pins σ H s):∀(n:Nat){A:Around}{x y:V}{v u:Value}{d e:D}{k:Bool},A.units+n<cLine->Rep X.K H x d->Rep X.K H y e->RelV x v->RelV y u->eqF n d e=some k->EqAt A s v u k/\RcAt A s v u k/\RcNeAt A s v u (!k)
 |0,A,x,y,v,u,d,e,k,hu,r1,r2,q1,q2,h=>by simp[eqF]at h
 |n+1,A,x,y,v,u,d,e,k,hu,r1,r2,q1,q2,h=>by
  have G:A.units<cLine:=by lia
  have a2:A.in1.units+n<cLine:=by show A.units+1+n<cLine;lia
  rcases xq9 h with h1|⟨ds,es,rfl,rfl,h1⟩|⟨ds,es,kk,rfl,rfl,hz,hk⟩
  .exact xd1 r1 r2 q1 q2 h1
  .let⟨a,xs,rfl,sq,rs⟩:=r1.l'
   let⟨b,ys,rfl,O,z⟩:=r2.l'
   ext q1;ext q2
   let⟨its,vr,⟨o,m,ho,hc,_,hd⟩,_⟩:=I.list sq
   let⟨i,N,⟨o2,m2,U,Z,_,Y⟩,_⟩:=I.list O
   have L1:s.heap.IsList a its.toArray:=⟨o,ho,hc,m,hd⟩
   have L2:s.heap.IsList b i.toArray:=⟨o2,U,Z,m2,Y⟩
   clear ho hc hd U Z Y
   have z1:its.length=ds.length:=by rw[<-vr.length,rs.length]
   have z2:i.length=es.length:=by rw[<-N.length,z.length]
   have j:RcAt A s (.ref a) (.ref b) k/\RcNeAt A s (.ref a) (.ref b) (!k):=by
    by_cases hl:ds.length=es.length
    .rw[if_pos hl]at h1
     let⟨g,g1,g2⟩:=zw1 h1
     have he:=za2 (fun a b c d e=>(yk2 I n a2 a b c d e).1) rs z vr N g1
     have hz:its.toArray.size=i.toArray.size:=by simp only[size_toArray];rw[z1,z2,hl]
     have hk:k=(List.range its.toArray.size).all g:=by
      rw[g2];simp only[size_toArray];rw[z1,hl,Nat.min_self]
     rw[hk]
     show⟨.lists L1 L2 hz G he,.lists L1 L2 hz G he⟩
    .rw[if_neg hl]at h1
     ext h1
     have hz:(its.toArray.size != i.toArray.size)=true:=by simp only[size_toArray];rw[z1,z2];show bne_iff_ne.mpr hl
     show⟨.lists_lengths L1 L2 hz G,.lists_lengths L1 L2 hz G⟩
   show⟨?_,j⟩
   by_cases a1:a=b
   .subst a1
    rw[Rep.eqT I (n+1) (.lst sq rs) (.lst O z) h]
    show EqAt.same _
   .exact .of_refs a1 j.1
  .let⟨a,xs,rfl,sq,rs⟩:=r1.t'
   let⟨b,ys,rfl,O,z⟩:=r2.t'
   ext q1;ext q2
   let⟨its,vr,⟨o,ho,hc,m,hd⟩,_⟩:=I.tuple sq
   let⟨i,N,⟨o2,U,Z,m2,Y⟩,_⟩:=I.tuple O
   have L1:s.heap.IsTuple a its.toArray:=⟨o,ho,hc,m,hd⟩
   have L2:s.heap.IsTuple b i.toArray:=⟨o2,U,Z,m2,Y⟩
   clear ho hc hd U Z Y
   have z1:its.length=ds.length:=by rw[<-vr.length,rs.length]
   have z2:i.length=es.length:=by rw[<-N.length,z.length]
   have j:RcAt A s (.ref a) (.ref b) k/\RcNeAt A s (.ref a) (.ref b) (!k):=by
    let⟨g,g1,g2⟩:=zw1 hz
    have he:=za2 (fun a b c d e=>(yk2 I n a2 a b c d e).1) rs z vr N g1
    have hk:k=((List.range (min its.toArray.size i.toArray.size)).all g&&its.toArray.size==i.toArray.size):=by
     rw[<-hk,g2];simp only[size_toArray];rw[z1,z2]
    rw[hk]
    show⟨.tuples L1 L2 G he,.tuples L1 L2 G he⟩
   show⟨?_,j⟩
   by_cases a1:a=b
   .subst a1
    rw[Rep.eqT I (n+1) (.tup sq rs) (.tup O z) h]
    show EqAt.same _
   .exact .of_refs a1 j.1
end
end
section
section
variable {X:Cx}{a b c e:Expr}{ma mb:ME}{la lb:ML}{pos:Pos}
noncomputable def rEqF (K:W.Frag)(neg:Bool):R2:=fun x y H Q=>∃ d e k,Rep K H x d/\Rep K H y e/\eqF 8 d e=some k/\Q (.bl (if neg then !k else k)) H
theorem xz8 (z:X.A.units+64<cLine):OpR X (compareOp .Eq) (rEqF X.K false):=by
 intro pins s σ H x y v u Q I j i h
 let⟨d,e,k,r1,r2,h,q⟩:=h
 show(yk2 I 8 (by lia) r1 r2 j i h).2.1 X.prog X.w _ _ ⟨.bl k,H,I,rfl,q⟩
theorem yq1 (z:X.A.units+64<cLine):OpR X (compareOp .NotEq) (rEqF X.K true):=by
 intro pins s σ H x y v u Q I j i h
 let⟨d,e,k,r1,r2,h,q⟩:=h
 show(yk2 I 8 (by lia) r1 r2 j i h).2.2 X.prog X.w _ _ ⟨.bl (!k),H,I,rfl,q⟩
noncomputable def eqFD (neg:Bool)(d e:D):Option D:=(eqF 8 d e).map fun k=>.bl (if neg then !k else k)
@[irreducible] noncomputable def meqB (neg:Bool)(x y:ML):ME:=fun ρ=>(x ρ).bind fun ds=>(y ρ).bind fun es=>eqFD neg (.lst ds) (.lst es)
theorem xd3 {i:Bool}{σ:St}{H:Hp}{Q:VK}(h:TD X.K (meqB i la lb) σ H Q):tOp (rEqF X.K i) (TB X.K la) (TB X.K lb) σ H Q:=by
 let⟨F0,H0,F,ρ,g,G,e,q⟩:=h
 delta meqB at e
 cases h1:la ρ with
 |none=>rw[h1]at e;ext e
 |some ds=>
  cases h2:lb ρ with
  |none=>rw[h1,h2]at e;ext e
  |some es=>
   rw[h1,h2]at e
   have e:eqFD i (.lst ds) (.lst es)=some g:=e
   show⟨F0,H0,F,ρ,ds,G,h1,fun p xs F1 H1 z s1 r1=>⟨F0,H0,F1,ρ,es,G.go z,h2,fun p2 I F2 H2 j s2 r2=>?_⟩⟩
   delta eqFD at e
   cases hk:eqF 8 (.lst ds) (.lst es)with
   |none=>rw[hk]at e;ext e
   |some k=>
    rw[hk]at e;ext e
    show⟨_,_,k,.lst (j.hh.seq s1) (r1.mono (j.ff.trans j.fh)),.lst s2 (r2.mono j.fh),hk,q _ F2 H2 (z.trans j) (.bl _)⟩
theorem xz5 {op:CmpOp}{i:Bool}(j:OpR X (compareOp op) (rEqF X.K i))(ha:PB X a la)(z:PB X b lb)(hm:behindInMarks op b=false):PD X (.Compare a [op] [b] pos) (meqB i la lb):=(zj7 j ha z hm).imp fun _ _ _ h=>xd3 h
theorem yr9 {op:CmpOp}{i:Bool}(G:OpR X (compareOp op) (rEqF X.K i))(ha:PB X a la)(I:PB X b lb)(hm:behindInMarks op b=false):PC' X (.Compare a [op] [b] pos) (v3 (meqB i la lb)):=(zj1 G ha I hm).imp fun σ H Q j=>by
 let⟨F0,H0,F,ρ,g,z,e,q⟩:=j
 delta v3 at e
 split at e
 .rename_i k hk
  ext e
  show xd3 ⟨F0,H0,F,ρ,.bl g,z,hk,fun v F' H' x r=>?_⟩
  ext r
  show⟨_,rfl,q F' H' x⟩
 .cases e
noncomputable def tyD:D->String
 | .non=>"NoneType"| .bl _=>"bool"| .int _=>"int"| .str _=>"str"| .lst _=>"list"| .tup _=>"tuple"| .exc _=>"?"| .ptr _=>"?"| .obj _ _ _=>"?"
noncomputable def kitB (t c:String):Option Bool:=if t="?" then none else if (Value.type t==Value.type c)=true then some true else if W.kitMeta c=true then (fastBuiltinMro t).map (·.contains (Value.type c))else none
theorem xf0 {K:W.Frag}{t c:String}{k:Bool}(h:kitB t c=some k):t≠"?"/\W.kitOne K (.type t) (.type c)=some k:=by
 delta kitB at h
 split at h
 .cases h
 .rename_i z;show⟨z,h⟩
theorem xr9 {pins:List (Addr×Obj)}{σ:St}{H:Hp}{s:Shared}{A:Around}{E:Value->Shared->Prop}{Q:Value->Shared->Prop}{c:Value}{k:Bool}{x:V}{d:D}{u:Value}(I:Inv X pins σ H s)(j:RelV x u)(r:Rep X.K H x d)
  (e:tyD d≠"?"/\W.kitOne X.K (.type (tyD d)) c=some k) (h:∀ tk,Q (.bool k) { s with toks:=tk }):wpAny (model X.prog X.w) A (call (.builtin "isinstance") [u,c]) Q E s:=by
 let⟨N,e⟩:=e
 cases r with
 |exc _ _=>show absurd rfl N
 |ptr _=>show absurd rfl N
 |obj _ _ _ _ _=>show absurd rfl N
 |non=>show N7 I j .non e h
 |bl y=>show N7 I j (.bl y) e h
 |int i=>show N7 I j (.int i) e h
 |str y=>show N7 I j (.str y) e h
 |lst G Z=>
  ext j
  let⟨its,Y,⟨o,m,O,U,_,hd⟩,_⟩:=I.list G
  show W.kia_one W.kitx_list I.kIn ⟨_,O,U⟩ e (fun z=>nomatch z) h
 |tup G Z=>
  ext j
  let⟨its,Y,⟨o,O,U,m,hd⟩,_⟩:=I.tuple G
  show W.kia_one W.kitx_tuple I.kIn ⟨_,O,U⟩ e (fun z=>nomatch z) h
noncomputable def rIsi (K:W.Frag)(c:String):List V->Hp->VK->Prop:=fun vs H Q=>∃ x d k,vs=[x,.ty c]/\Rep K H x d/\kitB (tyD d) c=some k/\Q (.bl k) H
theorem ya0 {c:String}:G7 X (.builtin "isinstance") (rIsi X.K c):=by
 intro pins s σ H xs us Q I r h
 let⟨x,d,k,rfl,z,e,q⟩:=h
 let⟨u,w,rfl,j,i⟩:=yh5 r
 ext i
 show xr9 I j z (xf0 e) fun tk=>⟨.bl k,H,I.tok _,rfl,q⟩
@[irreducible] noncomputable def misi (c:String)(m:ME):ME:=fun ρ=>(m ρ).bind fun d=>(kitB (tyD d) c).map .bl
theorem yr3 {c:Str}{C:String}{p p2:Pos}(Y:Gl X "isinstance")(hm:X.mg "isinstance"=none)(I:Gl X c)(G:X.mg c=none)(U:bootBuiltins c=some (.type C))(ha:PD X a ma)
  (hn:c≠"__name__":=by decide) (hd:(c==("__debug__":Str))=false:=by decide)
  (hs:starEach (a::[.Name c p2]) X.env=(false,eval a X.env)::starEach [.Name c p2] X.env:=by rfl) (j:starEach [.Name c p2] X.env=(false,eval (.Name c p2) X.env)::starEach [] X.env:=by rfl)
  (z:(backTo pos (starEach [.Name c p2] X.env)).any (·.1)=false:=by rfl):PD X (.Call (.Name "isinstance" p) [a,.Name c p2] [] pos) (misi C ma):=
 (T9 (ya0 (c:=C)) Y hm PyProof.Rows.boot_isinstance (j4 ha (j4 (xu8 (v:=.ty C) I G U rfl hn hd) pa_nil j) hs) (by decide) (by decide) hs z).imp fun σ H Q i=>by
  let⟨F0,H0,F,ρ,g,O,e,q⟩:=i
  delta misi at e
  cases h1:ma ρ with
  |none=>rw[h1]at e;ext e
  |some d=>
   rw[h1]at e
   have e:(kitB (tyD d) C).map D.bl=some g:=e
   cases h2:kitB (tyD d) C with
   |none=>rw[h2]at e;ext e
   |some k=>
    rw[h2]at e;ext e
    show⟨F0,H0,F,ρ,d,O,h1,fun v F1 H1 N r1=>⟨v,d,k,rfl,r1.mono N.fh,h2,q _ F1 H1 N (.bl _)⟩⟩
end
end
section
section
variable {X:Cx}{a b c e k:Expr}{te:TE}{ma mb:ME}{la lb:ML}{pos p2:Pos}{st:Stmt}
end
end
section
section
variable {X:Cx}{a b c e:Expr}{ma mb:ME}{la lb:ML}{pos:Pos}{st:Stmt}
end
end
section
section
variable {K:W.Frag}{F0 H0 F H:Hp}{σ:St}{ρ:Ro}
theorem Rl.freezeP (r:Rl K F0 H0 F H σ ρ){i:Nat}{ds:List D}(h:ρ[i]? =some (some (.own ds))):∃ p xs,F p=none/\Rl K F0 H0 (upd F p (.lst xs)) H σ (ρ.set i (some (.sh (.lst ds)))):=by
 let⟨p,xs,a,b,c,d,z⟩:=r.own i ds h
 have I:i<ρ.length:=(List.getElem?_eq_some_iff.mp h).1
 have e:Ext F0 H0 (upd F p (.lst xs)) H:=r.ext.freeze b z c
 have ff:Same F (upd F p (.lst xs)):=(Same.refl F).put b
 show⟨p,xs,b,⟨e,by simp[r.len],fun j d' q=>?_,fun j es q=>?_,fun j k q es G U e1 e2 e3 e4=>?_,fun j q es e1=>?_,fun j k q es G e1 e2 e3=>?_,fun j k q q' es G e1 e2=>r.ob1 j k q q' es G (t6 e1).2 (t6 e2).2⟩⟩
 .by_cases hj:i=j
  .subst hj
   rw[getElem?_set_self I]at q
   ext q
   show⟨_,a,.lst (SqL.of y3) (d.mono ff)⟩
  .rw[getElem?_set_ne hj]at q
   let⟨v,v1,v2⟩:=r.sh j d' q
   show⟨v,v1,v2.mono ff⟩
 .by_cases hj:i=j
  .subst hj
   rw[getElem?_set_self I]at q
   ext q
  .rw[getElem?_set_ne hj]at q
   let⟨Y,N,Z,b',c',d',z'⟩:=r.own j es q
   have hp:Y≠p:=fun w=>r.inj i j p ds es hj h q a (by rw[<-w];show Z)
   show⟨Y,N,Z,by rw[y4 hp];show b',c',d'.mono ff,z'⟩
 .have n1:i≠j:=fun w=>by subst w;rw[getElem?_set_self I]at e1;ext e1
  have O:i≠k:=fun w=>by subst w;rw[getElem?_set_self I]at e2;ext e2
  rw[getElem?_set_ne n1]at e1
  rw[getElem?_set_ne O]at e2
  show r.inj j k q es G U e1 e2 e3 e4
 .let⟨n,e1⟩:=t6 e1
  let⟨o1,o2,o3,zs,o4,o5⟩:=r.ob j q es e1
  have hp:q≠p:=fun w=>r.obn j i q es ds e1 h (by rw[w];show a)
  show⟨o1,by rw[y4 hp];show o2,o3,zs,o4,o5.mono ff⟩
 .let⟨n,e1⟩:=t6 e1
  have O:i≠k:=fun w=>by subst w;rw[getElem?_set_self I]at e2;ext e2
  rw[getElem?_set_ne O]at e2
  show r.obn j k q es G e1 e2 e3
end
noncomputable def isSc:D->Bool
 | .lst _=>false
 | .tup _=>false
 | .exc _=>false
 | .ptr _=>false
 | .obj _ _ _=>false
 |_=>true
theorem ya9 {K:W.Frag}{F G:Hp}{v:V}{d:D}(h:isSc d=true)(r:Rep K F v d):Rep K G v d:=by
 cases r with
 |non=>show .non
 |bl b=>show .bl b
 |int i=>show .int i
 |str x=>show .str x
 |lst _ _=>ext h
 |tup _ _=>ext h
 |exc _ _=>ext h
 |ptr _=>ext h
 |obj _ _ _ _ _=>ext h
end
section
section
variable {X:Cx}{a b c e:Expr}{ma mb mz:ME}{la lb:ML}{pos:Pos}
noncomputable def flV:D->Option V
 | .non=>some .non| .bl b=>some (.bl b)| .int i=>some (.int i)| .str x=>some (.str x)
 |_=>none
noncomputable def flVs:List D->Option (List V)
 |[]=>some []
 |d::r=>match flV d with |some v=>(match flVs r with |some vs=>some (v::vs)|none=>none)|none=>none
theorem zg3 {K:W.Frag}{F:Hp}{v u:V}{d:D}(r:Rep K F v d)(h:flV d=some u):v=u/\zy0 u=true:=by
 ext r <;> ext h <;> show⟨rfl,rfl⟩
theorem A7 {K:W.Frag}{F:Hp}:∀{vs us:List V}{ds:List D},Reps K F vs ds->flVs ds=some us->vs=us/\us.all zy0=true
 |_,_,_,.nil,h=>by ext h;show⟨rfl,rfl⟩
 |_,_,_,.cons (d:=d) (ds:=ds) r t,h=>by
  unfold flVs at h
  cases h1:flV d with
  |none=>rw[h1]at h;ext h
  |some u=>
   cases h2:flVs ds with
   |none=>rw[h1,h2]at h;ext h
   |some us=>
    rw[h1,h2]at h;ext h
    let⟨G,z⟩:=zg3 r h1
    let⟨j,i⟩:=A7 t h2
    subst G j
    show⟨rfl,by rw[all_cons,z,i];rfl⟩
noncomputable def inDs (neg:Bool)(d:D)(ds:List D):Option D:=match flV d,flVs ds with
 |some v,some vs=>some (.bl (if neg then !inV v vs else inV v vs))
 |_,_=>none
noncomputable def inD (neg:Bool):D->D->Option D
 |d,.lst ds=>inDs neg d ds
 |d,.tup ds=>inDs neg d ds
 |_,_=>none
theorem zo0 {i:Bool}{d w:D}{ds:List D}(h:inDs i d ds=some w):∃ v vs,flV d=some v/\flVs ds=some vs/\w= .bl (if i then !inV v vs else inV v vs):=by
 delta inDs at h
 split at h
 .rename_i v vs h1 h2;ext h;show⟨v,vs,h1,h2,rfl⟩
 .cases h
theorem xi8 {K:W.Frag}{i:Bool}:OpD K (rIn K i) (inD i):=by
 intro F H x y d e w Q s r1 r2 h q
 cases r2 with
 |lst j z=>
  let⟨v,vs,h1,h2,rfl⟩:=zo0 (show inDs i d _=some w from h)
  let⟨O,N⟩:=zg3 r1 h1
  let⟨I,G⟩:=A7 z h2
  subst O I
  show⟨_,_,rfl,.inl (s.seq j),N,G,q _ F H (.refl s) (.bl _)⟩
 |tup j z=>
  let⟨v,vs,h1,h2,rfl⟩:=zo0 (show inDs i d _=some w from h)
  let⟨O,N⟩:=zg3 r1 h1
  let⟨I,G⟩:=A7 z h2
  subst O I
  show⟨_,_,rfl,.inr (s.seqT j),N,G,q _ F H (.refl s) (.bl _)⟩
 |_=>ext d <;> ext h
noncomputable def maxI:List Int->Int
 |[]=>0
 |a::r=>r.foldl (fun x y=>if y>x then y else x) a
theorem zg1:∀(r:List Int)(a:Int),(r.foldl (fun x y=>if y>x then y else x) a∈a::r)/\∀ y∈a::r,y<=r.foldl (fun x y=>if y>x then y else x) a
 |[],a=>⟨by simp,fun y i=>by simp at i;subst i;show Int.le_refl _⟩
 |b::r,a=>by
  let⟨h1,h2⟩:=zg1 r (if b>a then b else a)
  rw[foldl_cons]
  show⟨?_,fun y i=>?_⟩
  .rcases List.mem_cons.mp h1 with h|h
   .rw[h];split <;> simp
   .exact mem_cons_of_mem _ (mem_cons_of_mem _ h)
  .have h0:=h2 _ mem_cons_self
   rcases List.mem_cons.mp i with h|h
   .subst h;show Int.le_trans ?_ h0;split <;> lia
   .rcases List.mem_cons.mp h with h|h
    .subst h;show Int.le_trans ?_ h0;split <;> lia
    .exact h2 y (mem_cons_of_mem _ h)
theorem zb8 {ns:List Int}(h:ns≠[]):maxI ns∈ns:=by
 cases ns with
 |nil=>show absurd rfl h
 |cons a r=>show(zg1 r a).1
theorem yo5 {ns:List Int}{y:Int}(h:y∈ns):y<=maxI ns:=by
 cases ns with
 |nil=>ext h
 |cons a r=>show(zg1 r a).2 y h
theorem O9:∀{ns:List Int}{its:List Value},Vals (ns.map V.int) its->∃ xs:List (Int×Tok),its.toArray=intItems xs.toArray/\xs.map (·.1)=ns
 |[],_,.nil=>⟨[],by unfold intItems;simp,rfl⟩
 |n::ns,_,.cons r t=>by
  let⟨k,rfl⟩:=r
  let⟨xs,h1,h2⟩:=O9 t
  show⟨(n,k)::xs,?_,by rw[map_cons,h2]⟩
  have:=congrArg Array.toList h1
  unfold intItems at this ⊢
  simp at this ⊢
  show this
theorem zq2 (xs:List (Int×Tok)){i:Nat}(h:i<xs.length):numAt xs.toArray i=(xs[i]).1:=by
 unfold numAt
 simp[h]
noncomputable def xa9 (K:W.Frag):List V->Hp->VK->Prop:=fun vs H Q=>∃ p ns,vs=[.ref p]/\SqL K H p (ns.map V.int)/\ns≠[]/\Q (.int (maxI ns)) H
theorem yj5 (hc:X.calm=true):G7 X (.builtin "max") (xa9 X.K):=by
 intro pins s σ H xs us Q I r h
 let⟨p,ns,rfl,sq,N,q⟩:=h
 let⟨u,rfl,rx⟩:=P6 r
 ext rx
 let⟨its,Z,pl,hz⟩:=I.list sq
 let⟨z,h1,h2⟩:=O9 Z
 have hp:=pl.isList
 rw[h1]at hp
 have O:0<z.length:=by
  cases z with
  |nil=>simp at h2;show absurd h2.symm (by simpa using N)
  |cons _ _=>simp
 show max_intList (I.ok.hd hc) hp (by simpa using O) fun v h' tk e k=>?_
 let⟨Y,U⟩:=argBest_gt (numAt z.toArray) (z.toArray.size-1)
 rw[size_toArray]at Y U e
 generalize hi:argBest (fun i j=>decide (numAt z.toArray i>numAt z.toArray j)) (z.length-1)=i at Y U e
 have G:i<z.length:=by lia
 have hv:v=Value.int (z[i]).1 (z[i]).2:=by
  unfold intItems at e
  simp[G]at e
  show e.symm
 have hm:(z[i]).1=maxI ns:=by
  have m1:(z[i]).1∈ns:=by rw[<-h2];show mem_map_of_mem (getElem_mem G)
  show Int.le_antisymm (yo5 m1) ?_
  have m2:=zb8 N
  rw[<-h2]at m2
  let⟨t,ht,e2⟩:=List.mem_map.mp m2
  let⟨j,hj,e3⟩:=getElem_of_mem ht
  have:=U j (by lia)
  rw[zq2 z hj,zq2 z G,e3,e2,h2]at this
  show this
 subst hv
 show⟨.int (maxI ns),H,I.kept k,⟨_,by rw[hm]⟩,q⟩
noncomputable def O2:List D->Option (List Int)
 |[]=>some []
 | .int i::r=>match O2 r with |some ns=>some (i::ns)|none=>none
 |_=>none
theorem Q9 {K:W.Frag}{F:Hp}:∀{vs:List V}{ds:List D}{ns:List Int},Reps K F vs ds->O2 ds=some ns->vs=ns.map V.int
 |_,_,_,.nil,h=>by ext h;rfl
 |_,_,_,.cons (d:=d) (ds:=ds) r t,h=>by
  cases r with
  |int i=>
   unfold O2 at h
   cases h1:O2 ds with
   |none=>simp only[h1]at h;ext h
   |some ns=>simp only[h1]at h;ext h;rw[Q9 t h1];rfl
  |_=>ext h
theorem N8:∀ ns:List Int,O2 (ns.map D.int)=some ns
 |[]=>rfl
 |n::ns=>by show (match O2 (ns.map D.int)with |some ns=>some (n::ns)|none=>none)=_;rw[N8 ns]
@[irreducible] noncomputable def zq9 (m:ML):ME:=fun ρ=>match m ρ with |some ds=>(match O2 ds with |some (n::ns)=>some (.int (maxI (n::ns)))|_=>none)|none=>none
theorem yr0 {p:Pos}{m:ML}(O:X.calm=true)(I:Gl X "max")(hm:X.mg "max"=none)(ha:PB X e m)(hs:starEach (e::[]) X.env=(false,eval e X.env)::starEach [] X.env:=by rfl)(N:starEach [e] X.env=(false,eval e X.env)::starEach [] X.env:=by rfl)(j:(backTo pos (starEach [] X.env)).any (·.1)=false:=by rfl):PD X (.Call (.Name "max" p) [e] [] pos) (zq9 m):=
 (T9 (yj5 O) I hm PyProof.Rows.boot_max (j4 ha pa_nil hs) (by decide) (by decide) N j).imp fun σ H Q i=>by
  let⟨F0,H0,F,ρ,g,G,e,q⟩:=i
  delta zq9 at e
  cases h1:m ρ with
  |none=>rw[h1]at e;ext e
  |some ds=>
   rw[h1]at e
   cases h2:O2 ds with
   |none=>simp only[h2]at e;ext e
   |some ns=>
    cases ns with
    |nil=>simp only[h2]at e;ext e
    |cons n ns=>
     simp only[h2]at e;ext e
     show⟨F0,H0,F,ρ,ds,G,h1,fun p xs F1 H1 z s1 r1=>⟨p,n::ns,rfl,?_,by simp,q _ F1 H1 z (.int _)⟩⟩
     rw[<-Q9 r1 h2];show s1
noncomputable def xm9:List (Str×Str)->List DictEntry->Prop
 |[],[]=>True
 | (k,v)::r,e::es=>(∃ t,e.key= .str k t)/\(∃ t,e.val= .str v t)/\xm9 r es
 |_,_=>False
structure KTab (w:World)(K:W.Frag)(a:Addr)(tab:List (Str×Str)):Prop where
 ns:(a==sysModules)=false
 nd:(tab.map (·.1)).Nodup
 obj:∃ es ep,K.lookup a=some ⟨.type "dict",none,.dict es ep,#[]⟩/\xm9 tab es.toList/\∀ e∈es.toList,∀ k t,e.key= .str k t->e.hash=hashStr w k
end
end
section
section
variable {prog:Program}{w:World}{A:Around}{E:Value->Shared->Prop}{s:Shared}
structure ApT (z TO i1 i2 l:Addr):Prop where
 lz:l≠z
 lTO:l≠TO
 l1:l≠i1
 l2:l≠i2
end
end
section
section
variable {prog:Program}{w:World}{A:Around}{E:Value->Shared->Prop}{s:Shared}
end
section
variable {X:Cx}
end
end
section
section
variable {X:Cx}{a b c e:Expr}{ma mb:ME}{la lb:ML}{pos:Pos}
end
section
variable {K:W.Frag}{F0 H0 F H H':Hp}{σ:St}{ρ:Ro}
end
section
variable {X:Cx}{a b c e3:Expr}{ma mb:ME}{la lb:ML}{pos:Pos}{E:XK}{es:List Expr}{mf:MF}{m:ML}{rb:List Stmt}{mx:MS}{cc:MB}{y:D}
end
end
section
noncomputable abbrev MEm:=Ro->Option (D×Ro)
noncomputable abbrev MLm:=Ro->Option (List D×Ro)
noncomputable def TDm (K:W.Frag)(m:MEm):TE:=fun σ H Q=>∃ F0 H0 F ρ d ρ',Rl K F0 H0 F H σ ρ/\m ρ=some (d,ρ')/\∀ v F' H',Rl K F0 H0 F' H' σ ρ'->Same F F'->Rep K F' v d->Q v H'
noncomputable def TAm (K:W.Frag)(m:MLm):TA:=fun σ H Q=>∃ F0 H0 F ρ ds ρ',Rl K F0 H0 F H σ ρ/\m ρ=some (ds,ρ')/\∀ vs F' H',Rl K F0 H0 F' H' σ ρ'->Same F F'->Reps K F' vs ds->Q vs H'
noncomputable def PDm (X:Cx)(e:Expr)(m:MEm):Prop:=PE X e (TDm X.K m)
noncomputable def PAm (X:Cx)(es:List Expr)(m:MLm):Prop:=PA X es (TAm X.K m)
section
variable {X:Cx}{a b c e:Expr}{ma mb:ME}{na nb:MEm}{pos:Pos}{es:List Expr}
@[irreducible] noncomputable def mpu (m:ME):MEm:=fun ρ=>match m ρ with |some d=>some (d,ρ)|none=>none
@[irreducible] noncomputable def apu (m:ML):MLm:=fun ρ=>match m ρ with |some d=>some (d,ρ)|none=>none
theorem w4 (h:PD X e ma):PDm X e (mpu ma):=h.imp fun σ H Q i=>by
 let⟨F0,H0,F,ρ,d,ρ',j,e,q⟩:=i
 delta mpu at e
 split at e
 .rename_i d' hm;ext e;show⟨F0,H0,F,ρ,d,j,hm,fun v F' H' x r=>q v F' H' (j.go x) x.ff r⟩
 .cases e
theorem x8 {m:ML}(h:PAs X es m):PAm X es (apu m):=h.imp fun σ H Q i=>by
 let⟨F0,H0,F,ρ,d,ρ',j,e,q⟩:=i
 delta apu at e
 split at e
 .rename_i d' hm;ext e;show⟨F0,H0,F,ρ,d,j,hm,fun v F' H' x r=>q v F' H' (j.go x) x.ff r⟩
 .cases e
@[irreducible] noncomputable def m2m (f:D->D->Option D)(x y:MEm):MEm:=fun ρ=>match x ρ with
 |some (d,ρ1)=>(match y ρ1 with |some (e,ρ2)=>(match f d e with |some g=>some (g,ρ2)|none=>none)|none=>none)
 |none=>none
theorem ye2 {r:R2}{f:D->D->Option D}(N:OpD X.K r f){σ:St}{H:Hp}{Q:VK}(h:TDm X.K (m2m f na nb) σ H Q):tOp r (TDm X.K na) (TDm X.K nb) σ H Q:=by
 let⟨F0,H0,F,ρ,g,ρ',G,e,q⟩:=h
 delta m2m at e
 split at e
 .rename_i d ρ1 h1
  split at e
  .rename_i d2 ρ2 h2
   split at e
   .rename_i g' h3
    ext e
    show⟨F0,H0,F,ρ,d,ρ1,G,h1,fun x F1 H1 j s1 r1=>⟨F0,H0,F1,ρ1,d2,ρ',j,h2,fun y F2 H2 i s2 r2=>?_⟩⟩
    show N F2 H2 x y d d2 g Q i.fh (r1.mono s2) r2 h3 fun v F' H' z I=>q v F' H' (i.go z) (s1.trans (s2.trans z.ff)) I
   .cases e
  .cases e
 .cases e
theorem V8 {op:Operator}{r:R2}{f:D->D->Option D}(i:OpR X (binaryOp op) r)(j:OpD X.K r f)(ha:PDm X a na)(z:PDm X b nb):PDm X (.BinOp a op b pos) (m2m f na nb):=(yf6 i ha z).imp fun _ _ _ h=>ye2 j h
theorem xt1 {op:CmpOp}{r:R2}{f:D->D->Option D}(i:OpR X (compareOp op) r)(j:OpD X.K r f)(ha:PDm X a na)(z:PDm X b nb)(hm:behindInMarks op b=false):PDm X (.Compare a [op] [b] pos) (m2m f na nb):=(zj7 i ha z hm).imp fun _ _ _ h=>ye2 j h
noncomputable def ixLD:D->D->Option D
 | .lst ds,.int k=>atI ds k
 |_,_=>none
theorem xt8 {K:W.Frag}:OpD K (rIxL K) ixLD:=by
 intro F H x y d e w Q s r1 r2 h q
 cases d with
 |lst ds=>
  cases e with
  |int k=>
   let⟨a,xs,e1,i,j⟩:=r1.l'
   let⟨v,G,z⟩:=yy0 j (show atI _ k=some w from h)
   show⟨_,_,k,v,e1,r2.i',s.seq i,G,q v F H (.refl s) z⟩
  |_=>ext h
 |_=>ext h
theorem zc3 (ha:PDm X a na)(i:PDm X b nb)(hs:zf8 b:=by show fun _ _=>rfl):PDm X (.Subscript a b pos) (m2m ixLD na nb):=(xu6 zh7 ha i hs).imp fun σ H Q h=>ye2 xt8 h
@[irreducible] noncomputable def zp3 (x y:MEm):MEm:=fun ρ=>match x ρ with |some (.bl true,ρ1)=>y ρ1|some (.bl false,ρ1)=>some (.bl false,ρ1)|_=>none
theorem xu9 {op}(h:PDm X a na):PDm X (.BoolOp op [a] pos) na:=xz3 h
theorem xt2 {rest:List Expr}(ha:PDm X a na)(I:PDm X (.BoolOp .And (b::rest) pos) nb):PDm X (.BoolOp .And (a::b::rest) pos) (zp3 na nb):=(xz4 ha I).imp fun σ H Q j=>by
 let⟨F0,H0,F,ρ,g,ρ',G,e,q⟩:=j
 delta zp3 at e
 split at e
 .rename_i ρ1 h1
  show⟨F0,H0,F,ρ,_,ρ1,G,h1,fun x F1 H1 i s1 r1=>?_⟩
  ext r1
  show⟨true,rfl,iteT ?_⟩
  show⟨F0,H0,F1,ρ1,g,ρ',i,e,fun y F2 H2 z s2 r2=>q y F2 H2 z (s1.trans s2) r2⟩
 .rename_i ρ1 h1
  ext e
  show⟨F0,H0,F,ρ,_,ρ',G,h1,fun x F1 H1 i s1 r1=>?_⟩
  ext r1
  show⟨false,rfl,iteF (q _ F1 H1 i s1 (.bl _))⟩
 .cases e
@[irreducible] noncomputable def j3 (x:MEm)(r:MLm):MLm:=fun ρ=>match x ρ with |some (d,ρ1)=>(match r ρ1 with |some (ds,ρ2)=>some (d::ds,ρ2)|none=>none)|none=>none
theorem g4 {m:MLm}(ha:PDm X a na)(hr:PAm X es m)(hs:starEach (a::es) X.env=(false,eval a X.env)::starEach es X.env:=by rfl):PAm X (a::es) (j3 na m):=(j4 ha hr hs).imp fun σ H Q i=>by
 let⟨F0,H0,F,ρ,g,ρ',G,e,q⟩:=i
 delta j3 at e
 split at e
 .rename_i d ρ1 h1
  split at e
  .rename_i ds ρ2 h2
   ext e
   show⟨F0,H0,F,ρ,d,ρ1,G,h1,fun x F1 H1 z s1 r1=>⟨F0,H0,F1,ρ1,ds,ρ',z,h2,fun xs F2 H2 j s2 r2=>?_⟩⟩
   show q _ F2 H2 j (s1.trans s2) (.cons (r1.mono s2) r2)
  .cases e
 .cases e
@[irreducible] noncomputable def yp8 (m:MLm):MEm:=fun ρ=>match m ρ with |some (ds,ρ1)=>if ds.length<=sizeLine then some (.lst ds,ρ1)else none|none=>none
theorem xt0 {m:MLm}(h:PAm X es m):PDm X (.List es pos) (yp8 m):=(ys5 h).imp fun σ H Q j=>by
 let⟨F0,H0,F,ρ,g,ρ',z,e,q⟩:=j
 delta yp8 at e
 split at e
 .rename_i ds ρ1 h1
  split at e
  .rename_i hz
   ext e
   show⟨F0,H0,F,ρ,ds,ρ',z,h1,fun vs F1 H1 i s1 r1=>⟨by rw[r1.length];show hz,fun p hp=>?_⟩⟩
   have x:=Ext.laid (o:=.lst vs) i.fh hp
   show q _ _ _ (i.go x) (s1.trans x.ff) (.lst (SqL.of y3) (r1.mono x.ff))
  .cases e
 .cases e
@[irreducible] noncomputable def J6 (f:List D->Option D)(m:MLm):MEm:=fun ρ=>match m ρ with |some (ds,ρ1)=>(match f ds with |some d=>some (d,ρ1)|none=>none)|none=>none
theorem xp3 {r:List V->Hp->VK->Prop}{f:List D->Option D}{m:MLm}(G:yh1 X.K r f){σ:St}{H:Hp}{Q:VK}(h:TDm X.K (J6 f m) σ H Q):tCB r (TAm X.K m) σ H Q:=by
 let⟨F0,H0,F,ρ,g,ρ',z,e,q⟩:=h
 delta J6 at e
 split at e
 .rename_i ds ρ1 h1
  split at e
  .rename_i d h2
   ext e
   show⟨F0,H0,F,ρ,ds,ρ',z,h1,fun vs F1 H1 i s1 r1=>G F1 H1 vs ds g Q i.fh r1 h2 fun v F' H' j r2=>q v F' H' (i.go j) (s1.trans j.ff) r2⟩
  .cases e
 .cases e
theorem yf7 {p:Pos}{m:MLm}(z:Gl X "int")(hm:X.mg "int"=none)(ha:PAm X [e] m)(j:bootBuiltins "int"=some (.type "int"))(G:starEach [e] X.env=(false,eval e X.env)::starEach [] X.env:=by rfl)(i:(backTo pos (starEach [] X.env)).any (·.1)=false:=by rfl):PDm X (.Call (.Name "int" p) [e] [] pos) (J6 intF m):=
 (N3 zn5 z hm j ha (by decide) (by decide) G i).imp fun _ _ _ h=>xp3 zn1 h
variable {st:Stmt}
@[irreducible] noncomputable def Z6 (i:Nat)(x:MEm):MS:=fun ρ=>match x ρ with |some (d,ρ1)=>some (.nx (ρ1.set i (some (.sh d))))|none=>none
theorem j5 {i:Nat}{x:Str}{pos':Pos}(Y:X.N.Nodup)(hi:X.N[i]? =some x)(I:Loc X.env.scope x)(U:PDm X e na)(hs:swapsWith e (some (.Name x pos')) pos.line X.env=pure false:=by rfl)(O:X.fn x=true\/X.env.scope.names.lookup x=some .local:=by first|show .inl rfl|show .inr rfl|assumption):
  PSd X (.Assign [.Name x pos'] e pos) (Z6 i na):=(zr6 Y hi I U hs O).imp fun D σ H j=>by
 let⟨F0,H0,F,ρ,o,G,e,ok⟩:=j
 delta Z6 at e
 split at e
 .rename_i d ρ1 h1
  ext e
  show⟨F0,H0,F,ρ,d,ρ1,G,h1,fun v F1 H1 z s1 r1=>ok F1 H1 _ (z.set r1) s1⟩
 .cases e
@[irreducible] noncomputable def U2 (i:Nat)(x:MEm):MS:=fun ρ=>match x ρ with
 |some (d,ρ1)=>(match ρ1[i]? with |some (some (.ob p r))=>some (.rg d p r)|_=>none)
 |none=>none
theorem g0 (i:Nat)(N:PDm X e na):PSd X (.Return (some e) pos) (U2 i na):=(K5 N).imp fun D σ H z=>by
 let⟨F0,H0,F,ρ,o,G,e,ok⟩:=z
 delta U2 at e
 split at e
 .rename_i d ρ1 h1
  split at e
  .rename_i p r h2
   ext e
   show⟨F0,H0,F,ρ,d,ρ1,G,h1,fun v F1 H1 j s1 r1=>?_⟩
   let⟨O,I,o3,xs,o4,o5⟩:=j.ob i p r h2
   show ok v F1 H1 xs j.ext r1 I o4 o5
  .cases e
 .cases e
@[irreducible] noncomputable def zy9 (i j:Nat):MS:=fun ρ=>match ρ[i]?,ρ[j]? with
 |some (some (.ob p r)),some (some (.own ds))=>some (.rgf ds p r)
 |_,_=>none
theorem zr5 (i j:Nat){x:Str}{pos':Pos}(h:PE X (.Name x pos') (tVar j)):PSd X (.Return (some (.Name x pos')) pos) (zy9 i j):=(K5 h).imp fun D σ H G=>by
 let⟨F0,H0,F,ρ,o,I,e,ok⟩:=G
 delta zy9 at e
 split at e
 .rename_i p r ds h1 h2
  ext e
  let⟨o1,U,o3,xs,o4,o5⟩:=I.ob i p r h1
  let⟨q,ys,O,a2,a3,Z,Y⟩:=I.own j ds h2
  have N:q≠p:=fun z=>I.obn i j p r ds h1 h2 (by rw[<-z];show O)
  show⟨_,O,ok q ys F H xs I.ext Y a2 N a3 Z U o4 o5⟩
 .cases e
end
noncomputable abbrev MG:=Addr->List D->List D->Option (Rt×List D)
noncomputable def del (H:Hp)(p:Addr):Hp:=fun b=>if b=p then none else H b
theorem E7 {H:Hp}{p:Addr}:del H p p=none:=by delta del;rw[if_pos rfl]
theorem U8 {H:Hp}{p b:Addr}(h:b≠p):del H p b=H b:=by delta del;rw[if_neg h]
noncomputable def okG (K:W.Frag)(F H:Hp)(p:Addr)(Q:VK)(r':List D):Rt->Prop
 | .sh d=>∀ v F' H' xs,Ext F (del H p) F' H'->Rep K F' v d->F' p=none->H' p=some (.lst xs)->Reps K F' xs r'->Q v H'
 | .fr ds=>∀ q ys F' H' xs,Ext F (del H p) F' H'->H q=none->F' q=none->H' q=some (.lst ys)->Reps K F' ys ds->F' p=none->H' p=some (.lst xs)->Reps K F' xs r'->Q (.ref q) H'
 | .pr _ _=>False
noncomputable def spG (K:W.Frag)(n:Nat)(m:MG):Sp:=fun vs H Q _=>vs.length=n/\∃ p ws F r0 ds r r1 xs,vs= .ref p::ws/\H p=some (.lst xs)/\F p=none/\Same F H/\Reps K F xs r0/\Reps K F ws ds/\m p r0 ds=some (r,r1)/\okG K F H p Q r1 r
noncomputable def R3 (n:Nat)(p:Addr)(r:List D)(ds:List D):Ro:=some (.ob p r)::u0 (n-1) ds
noncomputable def runG (n:Nat)(m:MS):MG:=fun p r ds=>match m (R3 n p r ds)with
 |some (.rg d q r')=>if q=p then some (.sh d,r')else none
 |some (.rgf es q r')=>if q=p then some (.fr es,r')else none
 |_=>none
theorem yt2 {K:W.Frag}{F H:Hp}{N:List Str}{p:Addr}{xs ws:List V}{r ds:List D}(hn:0<N.length)(s:Same F H)(U:F p=none)(O:H p=some (.lst xs))(hr:Reps K F xs r)(I:Reps K F ws ds):Rl K F (del H p) F H (V3 N (.ref p::ws)) (R3 N.length p r ds):=by
 have Y:V3 N (.ref p::ws)=some (.ref p)::V3 N.tail ws:=by
  delta V3
  rw[map_cons,cons_append,length_cons,length_tail]
  congr 2
  congr 1
  lia
 have e1:R3 N.length p r ds=some (.ob p r)::u0 N.tail.length ds:=by delta R3;rw[length_tail]
 have base:=G9 (N:=N.tail) s I
 have only:∀(j:Nat) x,(u0 N.tail.length ds)[j]? =some (some x)->∃ d,x=S.sh d:=fun j x e=>by
  delta u0 at e
  by_cases hi:j<ds.length
  .rw[getElem?_append_left (by simpa using hi),getElem?_map]at e
   cases q:ds[j]? with
   |none=>rw[q]at e;ext e
   |some d=>rw[q]at e;ext e;show⟨d,rfl⟩
  .rw[getElem?_append_right (by simpa using hi),getElem?_replicate]at e
   split at e <;> ext e
 rw[Y,e1]
 show⟨⟨Same.refl F,fun b o e=>?_,s,fun b e n=>absurd e n,fun _ _ _ z=>z⟩,by rw[length_cons,length_cons,base.len],fun i d e=>?_,fun i es e=>?_,fun i j q es G _ e=>?_,fun i q es e=>?_,fun i j q es G e e2=>?_,fun i j q Z es G e e2=>?_⟩
 .by_cases hb:b=p
  .subst hb;rw[E7]at e;ext e
  .rw[U8 hb]at e;show e
 .cases i with
  |zero=>ext e
  |succ i=>show base.sh i d e
 .cases i with
  |zero=>ext e
  |succ i=>let⟨d,z⟩:=only i _ e;ext z
 .cases i with
  |zero=>ext e
  |succ i=>let⟨d,z⟩:=only i _ e;ext z
 .cases i with
  |zero=>ext e;show⟨rfl,U,E7,xs,O,hr⟩
  |succ i=>let⟨d,z⟩:=only i _ e;ext z
 .cases j with
  |zero=>ext e2
  |succ j=>let⟨d,z⟩:=only j _ e2;ext z
 .cases i with
  |zero=>
   cases j with
   |zero=>rfl
   |succ j=>let⟨d,z⟩:=only j _ e2;ext z
  |succ i=>let⟨d,z⟩:=only i _ e;ext z
theorem Fun.okGl {P:Program}{w:World}{K:W.Frag}{mg:Str->Option Value}{base:Heap}{x qual:Str}{st:Stmt}{f:Addr}{fd:FuncData}{N ps:List Str}{k:Nat}{m:MS}(Fn:Fun K x qual st f fd)(Sc:FnScope N ps (z9 st))(hn:0<N.length)
  (z:∀(cdv:Value)(A:Around)(outer:List Env)(s:Shared)(H:Hp)(E:XK),Room k (A.deeper (envOfC qual (z9 st) s.heap.objs.size f cdv))->PSsd (cxOf CX0 P w K mg base N qual (z9 st) f cdv A outer s H E).nox (d7 st) m):
  FnOk P w K mg base CX0 (k+1) f fd ps (spG K ps.length (runG N.length m)):=by
 show Fn.ok Sc (fun vs H Q E h=>h.1) fun cdv A outer s H vs Q E hr h=>?_
 let⟨hl,p,ws,F,r0,ds,r,r1,xs,rfl,hH,hF,Z,rx,rs,e,ok⟩:=h
 delta runG at e
 cases h1:m (R3 N.length p r0 ds)with
 |none=>rw[h1]at e;ext e
 |some o=>
  rw[h1]at e
  show⟨_,z cdv A outer s H E hr,F,del H p,F,R3 N.length p r0 ds,o,yt2 hn Z hF hH rx rs,h1,?_⟩
  cases o with
  |rg d q G=>
   have e:(if q=p then some (Rt.sh d,G)else none)=some (r,r1):=e
   by_cases j:q=p
   .rw[if_pos j]at e
    ext e
    subst j
    show fun v F' H' i x rv U h1 rr=>ok v F' H' i x rv U h1 rr
   .rw[if_neg j]at e;ext e
  |rgf es q G=>
   have e:(if q=p then some (Rt.fr es,G)else none)=some (r,r1):=e
   by_cases j:q=p
   .rw[if_pos j]at e
    ext e
    subst j
    show fun q' ys F' H' i x Y f0 O I rq U h1 rr=>ok q' ys F' H' i x (by rw[U8 O]at Y;show Y) f0 I rq U h1 rr
   .rw[if_neg j]at e;ext e
  |nx _=>ext e
  |bk _=>ext e
  |ct _=>ext e
  |rt _=>ext e
  |rf _=>ext e
  |rp _ _=>ext e
end
section
section
variable {K:W.Frag}{F0 H0 F H F' H':Hp}{σ:St}{ρ:Ro}
theorem Ext.lent (a:Ext F0 H0 F H){p:Addr}(G:H0 p=none)(x:Ext F (del H p) F' H'):Ext F0 H0 F' H':=
 ⟨a.ff.trans x.ff,fun b o e=>by
  have i:b≠p:=fun z=>by rw[z,G]at e;ext e
  show x.hh b o (by rw[U8 i];show a.hh b o e),x.fh,fun b e n=>by
  by_cases j:F b=none
  .by_cases i:b=p
   .rw[i];show G
   .have:=x.new b j n
    rw[U8 i]at this
    show a.hh.free this
  .exact a.new b e j,fun b o u z=>a.nf b o u (x.nf b o u z)⟩
theorem Rl.lent (r:Rl K F0 H0 F H σ ρ){i:Nat}{p:Addr}{xs:List V}{r0 r1:List D}(h:ρ[i]? =some (some (.own r0)))(hp:σ[i]? =some (some (.ref p)))(x:Ext F (del H p) F' H')(hF:F' p=none)(hH:H' p=some (.lst xs))(hr:Reps K F' xs r1):Rl K F0 H0 F' H' σ (ρ.set i (some (.own r1))):=by
 let⟨p',a4,a,b,c,d,z⟩:=r.own i r0 h
 rw[hp]at a;ext a
 have hl:i<ρ.length:=(List.getElem?_eq_some_iff.mp h).1
 have N:∀ q,q≠p->F q=none->(∃ o,H q=some o)->F' q=none:=fun q Z f Y=>by
  let⟨o,ho⟩:=Y
  cases w:F' q with
  |none=>rfl
  |some u=>have:=x.new q f (by rw[w];simp);rw[U8 Z,ho]at this;ext this
 have I:∀ q o,q≠p->H q=some o->H' q=some o:=fun q o Z ho=>x.hh q o (by rw[U8 Z];show ho)
 have G:∀(j:Nat) fs,(ρ.set i (some (S.own r1)))[j]? =some (some (.own fs))->(j=i/\fs=r1)\/(i≠j/\ρ[j]? =some (some (.own fs))):=fun j fs e=>by
  by_cases U:i=j
  .subst U;rw[getElem?_set_self hl]at e;ext e;show .inl ⟨rfl,rfl⟩
  .rw[getElem?_set_ne U]at e;show .inr ⟨U,e⟩
 show⟨r.ext.lent z x,by simp[r.len],fun j d' q=>?_,fun j fs q=>?_,fun j k q fs fs' a1 e1 e2 e3 e4=>?_,fun j q fs e1=>?_,fun j k q fs fs' e1 e2 e3=>?_,fun j k q q' es a3 e1 e2=>r.ob1 j k q q' es a3 (t6 e1).2 (t6 e2).2⟩
 .by_cases U:i=j
  .subst U;rw[getElem?_set_self hl]at q;ext q
  .rw[getElem?_set_ne U]at q
   let⟨v,v1,v2⟩:=r.sh j d' q
   show⟨v,v1,v2.mono x.ff⟩
 .rcases G j fs q with⟨rfl,rfl⟩|⟨n,e⟩
  .exact⟨p,xs,hp,hF,hH,hr,z⟩
  .let⟨p2,xs2,a2,b2,c2,d2,z2⟩:=r.own j fs e
   have O:p2≠p:=fun w=>r.inj i j p r0 fs n h e hp (by rw[<-w];show a2)
   show⟨p2,xs2,a2,N p2 O b2 ⟨_,c2⟩,I _ _ O c2,d2.mono x.ff,z2⟩
 .have b1:∃ g,ρ[j]? =some (some (.own g)):=by
   rcases G j fs e1 with⟨rfl,_⟩|⟨_,w⟩
   .exact⟨_,h⟩
   .exact⟨_,w⟩
  have b2:∃ g,ρ[k]? =some (some (.own g)):=by
   rcases G k fs' e2 with⟨rfl,_⟩|⟨_,w⟩
   .exact⟨_,h⟩
   .exact⟨_,w⟩
  let⟨g1,w1⟩:=b1
  let⟨g2,w2⟩:=b2
  show r.inj j k q g1 g2 a1 w1 w2 e3 e4
 .let⟨n,e1⟩:=t6 e1
  let⟨o1,o2,o3,zs,o4,o5⟩:=r.ob j q fs e1
  have O:q≠p:=fun w=>r.obn j i q fs r0 e1 h (by rw[w];show hp)
  show⟨o1,N q O o2 ⟨_,o4⟩,o3,zs,I _ _ O o4,o5.mono x.ff⟩
 .let⟨n,e5⟩:=t6 e1
  rcases G k fs' e2 with⟨e6,_⟩|⟨_,w⟩
  .rw[e6]at e3;show r.obn j i q fs r0 e5 h e3
  .exact r.obn j k q fs fs' e5 w e3
theorem Rl.lentB (r:Rl K F0 H0 F H σ ρ){i:Nat}{p:Addr}{xs:List V}{r0 r1:List D}(h:ρ[i]? =some (some (.ob p r0)))(x:Ext F (del H p) F' H')(hF:F' p=none)(hH:H' p=some (.lst xs))(hr:Reps K F' xs r1):Rl K F0 H0 F' H' σ (ρ.set i (some (.ob p r1))):=by
 let⟨a,b,z,a4,c,d⟩:=r.ob i p r0 h
 have hl:i<ρ.length:=(List.getElem?_eq_some_iff.mp h).1
 have O:∀ q,q≠p->F q=none->(∃ o,H q=some o)->F' q=none:=fun q hq f Y=>by
  let⟨o,ho⟩:=Y
  cases w:F' q with
  |none=>rfl
  |some u=>have:=x.new q f (by rw[w];simp);rw[U8 hq,ho]at this;ext this
 have N:∀ q o,q≠p->H q=some o->H' q=some o:=fun q o hq ho=>x.hh q o (by rw[U8 hq];show ho)
 have G:∀(j:Nat) q fs,(ρ.set i (some (S.ob p r1)))[j]? =some (some (.ob q fs))->j=i/\q=p/\fs=r1:=fun j q fs e=>by
  by_cases I:i=j
  .subst I;rw[getElem?_set_self hl]at e;ext e;show⟨rfl,rfl,rfl⟩
  .rw[getElem?_set_ne I]at e;show absurd (r.ob1 i j p q r0 fs h e) I
 have other:∀(j:Nat) fs,(ρ.set i (some (S.ob p r1)))[j]? =some (some (.own fs))->i≠j/\ρ[j]? =some (some (.own fs)):=fun j fs e=>by
  by_cases I:i=j
  .subst I;rw[getElem?_set_self hl]at e;ext e
  .rw[getElem?_set_ne I]at e;show⟨I,e⟩
 show⟨r.ext.lent z x,by simp[r.len],fun j d' q=>?_,fun j fs q=>?_,fun j k q fs fs' a3 e1 e2 e3 Z=>r.inj j k q fs fs' a3 (other j fs e1).2 (other k fs' e2).2 e3 Z,fun j q fs e1=>?_,fun j k q fs fs' e1 e2 e3=>?_,fun j k q q' fs fs' e1 e2=>?_⟩
 .by_cases I:i=j
  .subst I;rw[getElem?_set_self hl]at q;ext q
  .rw[getElem?_set_ne I]at q
   let⟨v,v1,v2⟩:=r.sh j d' q
   show⟨v,v1,v2.mono x.ff⟩
 .let⟨n,e⟩:=other j fs q
  let⟨p2,a1,a2,b2,c2,d2,z2⟩:=r.own j fs e
  have U:p2≠p:=fun w=>r.obn i j p r0 fs h e (by rw[<-w];show a2)
  show⟨p2,a1,a2,O p2 U b2 ⟨_,c2⟩,N _ _ U c2,d2.mono x.ff,z2⟩
 .let⟨e2,e3,Z⟩:=G j q fs e1
  subst e2 e3 Z
  show⟨a,hF,z,xs,hH,hr⟩
 .let⟨Z,e5,_⟩:=G j q fs e1
  subst Z e5
  show r.obn j k q r0 fs' h (other k fs' e2).2 e3
 .rw[(G j q fs e1).1,(G k q' fs' e2).1]
end
open Classical in
noncomputable def anyP {α:Type}(f:Addr->Option α):Option α:=if h:∃ x,∀ p,f p=some x then some (Classical.choose h)else none
theorem zm4 {α:Type}{f:Addr->Option α}{x:α}(h:anyP f=some x):∀ p,f p=some x:=by
 delta anyP at h
 split at h
 .rename_i hx
  ext h
  show Classical.choose_spec hx
 .cases h
theorem yi5 {α:Type}{f:Addr->Option α}{x:α}(h:∀ p,f p=some x):anyP f=some x:=by
 delta anyP
 have i:∃ x,∀ p,f p=some x:=⟨x,h⟩
 rw[dif_pos i]
 have:=Classical.choose_spec i 0
 rw[h 0]at this
 show this.symm
noncomputable def rtD:Rt->Option D
 | .sh d=>some d
 | .fr es=>some (.lst es)
 | .pr _ _=>none
@[irreducible] noncomputable def y8 (f:MG)(i:Nat)(m:MLm):MEm:=fun ρ=>match ρ[i]? with
 |some (some (.own _))=>(match m ρ with
  |some (ds,ρ1)=>(match ρ1[i]? with
   |some (some (.own r0))=>(match anyP (fun p=>f p r0 ds)with
    |some (t,r1)=>(match rtD t with |some d=>some (d,ρ1.set i (some (.own r1)))|none=>none)
    |none=>none)
   |_=>none)
  |none=>none)
 |some (some (.ob _ _))=>(match m ρ with
  |some (ds,ρ1)=>(match ρ1[i]? with
   |some (some (.ob p r0))=>(match f p r0 ds with
    |some (t,r1)=>(match rtD t with |some d=>some (d,ρ1.set i (some (.ob p r1)))|none=>none)
    |none=>none)
   |_=>none)
  |none=>none)
 |_=>none
theorem w6 {m:ML}{n:Nat}(h:∀ ρ ds,m ρ=some ds->ds.length=n)(ρ:Ro)(ds:List D)(ρ':Ro)(e:apu m ρ=some (ds,ρ')):ds.length=n:=by
 delta apu at e
 split at e
 .rename_i d hm;ext e;show h ρ _ hm
 .cases e
theorem P1 {x:MEm}{r:MLm}{n:Nat}(hr:∀ ρ ds ρ',r ρ=some (ds,ρ')->ds.length=n)(ρ:Ro)(ds:List D)(ρ':Ro)(h:j3 x r ρ=some (ds,ρ')):ds.length=n+1:=by
 delta j3 at h
 split at h
 .rename_i d ρ1 h1
  split at h
  .rename_i ds' ρ2 h2;ext h;rw[length_cons,hr ρ1 ds' _ h2]
  .cases h
 .cases h
section
variable {X:Cx}{e:Expr}{pos:Pos}{es:List Expr}{E:XK}{mf:MG}{m:MLm}
theorem y9 {n i:Nat}{x:Str}{px:Pos}(h:∀ t,PA X (.Name x px::es) t->PE X e (zk3 (spG X.K n mf) [] E t))(hl:es.length+1=n)(hv:PE X (.Name x px) (tVar i))(ha:PAm X es m)(hm:∀ ρ ds ρ',m ρ=some (ds,ρ')->ds.length=es.length)
  (hs:starEach (.Name x px::es) X.env=(false,eval (.Name x px) X.env)::starEach es X.env:=by rfl):PDm X e (y8 mf i m):=(h _ (j4 hv ha hs)).imp fun σ H Q a6=>by
 let⟨F0,H0,F,ρ,d,ρ',rl,e,q⟩:=a6
 delta y8 at e
 split at e
 .rename_i r00 h0
  let⟨p,xs,U,a2,a3,a4,a5⟩:=rl.own i r00 h0
  split at e
  .rename_i ds ρ1 h1
   split at e
   .rename_i r0 h2
    split at e
    .rename_i t r1 h3
     split at e
     .rename_i d' h4
      ext e
      have h3:=zm4 h3
      show⟨_,U,F0,H0,F,ρ,ds,ρ1,rl,h1,fun vs F1 H1 j s1 rv=>?_⟩
      let⟨p',ys,b1,b2,b3,b4,b5⟩:=j.own i r0 h2
      rw[U]at b1;ext b1
      show spG X.K n mf ((.ref p::vs)++[]) H1 Q E
      rw[append_nil]
      show⟨by rw[length_cons,rv.length,hm ρ ds ρ1 h1,hl],p,vs,F1,r0,ds,t,r1,ys,rfl,b3,b2,j.fh,b4,rv,h3 p,?_⟩
      cases t with
      |sh g=>
       ext h4
       show fun v F' H' zs x rg O N I=>q v F' H' (j.lent h2 U x O N I) (s1.trans x.ff) rg
      |fr gs=>
       ext h4
       intro w zs F' H' us x hw fw Z Y O N I
       have G:w≠p:=fun z=>by rw[z,b3]at hw;ext hw
       have a7:=j.lent h2 U x O N I
       have fz:Ext F' H' (upd F' w (.lst zs)) H'->True:=fun _=>True.intro
       have x2:Ext F1 (del H1 p) (upd F' w (.lst zs)) H':=x.freeze fw (by rw[U8 G];show hw) Z
       have s2:Same F' (upd F' w (.lst zs)):=(Same.refl F').put fw
       show q _ (upd F' w (.lst zs)) H' (j.lent h2 U x2 (by rw[y4 (Ne.symm G)];show O) N (I.mono s2)) (s1.trans x2.ff) (.lst (SqL.of y3) (Y.mono s2))
      |pr _ _=>ext h4
     .cases e
    .cases e
   .cases e
  .cases e
 .rename_i p00 r00 h0
  let⟨U,a2,a5,xs,a3,a4⟩:=rl.ob i p00 r00 h0
  split at e
  .rename_i ds ρ1 h1
   split at e
   .rename_i p r0 h2
    split at e
    .rename_i t r1 h3
     split at e
     .rename_i d' h4
      ext e
      show⟨_,U,F0,H0,F,ρ,ds,ρ1,rl,h1,fun vs F1 H1 j s1 rv=>?_⟩
      let⟨b1,b2,b5,ys,b3,b4⟩:=j.ob i p r0 h2
      rw[U]at b1;ext b1
      show spG X.K n mf ((.ref p00::vs)++[]) H1 Q E
      rw[append_nil]
      show⟨by rw[length_cons,rv.length,hm ρ ds ρ1 h1,hl],p00,vs,F1,r0,ds,t,r1,ys,rfl,b3,b2,j.fh,b4,rv,h3,?_⟩
      cases t with
      |sh g=>
       ext h4
       show fun v F' H' zs x rg O N I=>q v F' H' (j.lentB h2 x O N I) (s1.trans x.ff) rg
      |fr gs=>
       ext h4
       intro w zs F' H' us x hw fw Z Y O N I
       have G:w≠p00:=fun z=>by rw[z,b3]at hw;ext hw
       have x2:Ext F1 (del H1 p00) (upd F' w (.lst zs)) H':=x.freeze fw (by rw[U8 G];show hw) Z
       have s2:Same F' (upd F' w (.lst zs)):=(Same.refl F').put fw
       show q _ (upd F' w (.lst zs)) H' (j.lentB h2 x2 (by rw[y4 (Ne.symm G)];show O) N (I.mono s2)) (s1.trans x2.ff) (.lst (SqL.of y3) (Y.mono s2))
      |pr _ _=>ext h4
     .cases e
    .cases e
   .cases e
  .cases e
 .cases e
end
end
section
section
variable {X:Cx}{a b c e:Expr}{ma mb:ME}{pos:Pos}
end
noncomputable def noL:D->Bool
 | .tup ds=>ds.all isSc
 |d=>isSc d
@[irreducible] noncomputable def B3 (i:Nat)(m:ME):ME:=fun ρ=>match ρ[i]? with
 |some (some (.own ds))=>(match m (ρ.set i (some (.sh (.lst ds))))with |some d=>if noL d=true then some d else none|none=>none)
 |_=>m ρ
theorem yu5 {K:W.Frag}{F G:Hp}:∀{vs:List V}{ds:List D},ds.all isSc=true->Reps K F vs ds->Reps K G vs ds
 |_,_,_,.nil=>.nil
 |_,_,h,.cons r t=>by
  rw[all_cons,Bool.and_eq_true]at h
  show .cons (ya9 h.1 r) (yu5 h.2 t)
theorem xs6 {K:W.Frag}{F:Hp}{p:Addr}{xs:List V}{v:V}{d:D}(hp:F p=some (.lst xs))(h:noL d=true)(r:Rep K F v d):Rep K (fun b=>if b=p then none else F b) v d:=by
 cases r with
 |non=>show .non
 |bl b=>show .bl b
 |int i=>show .int i
 |str x=>show .str x
 |lst _ _=>ext h
 |exc _ _=>ext h
 |ptr _=>ext h
 |obj _ _ _ _ _=>ext h
 |tup j G=>
  rename_i a ys ds
  show .tup ?_ (yu5 h G)
  rcases j with (j|⟨o,j⟩)|j
  .have hne:a≠p:=fun z=>by rw[z,hp]at j;ext j
   show .inl (.inl (by show (if a=p then none else F a)=_;rw[if_neg hne];show j))
  .have hne:a≠p:=fun z=>by rw[z,hp]at j;ext j
   show .inl (.inr ⟨o,by show (if a=p then none else F a)=_;rw[if_neg hne];show j⟩)
  .exact .inr j
theorem zj9 {X:Cx}{e:Expr}{m:ME}(i:Nat)(h:PD X e m):PD X e (B3 i m):=h.imp fun σ H Q I=>by
 let⟨F0,H0,F,ρ,d,U,e,q⟩:=I
 delta B3 at e
 split at e
 .rename_i ds h1
  let⟨p,xs,hp,N⟩:=U.freezeP h1
  split at e
  .rename_i d' h2
   split at e
   .rename_i hs
    ext e
    show⟨F0,H0,_,_,d,N,h2,fun v F2 H2 G r2=>?_⟩
    have O:F2 p=some (.lst xs):=G.ff _ _ y3
    show q v (fun b=>if b=p then none else F2 b) H2 ⟨fun b o j=>?_,G.hh,fun b o j=>?_,fun b j hn=>?_,fun b o u z=>by
     have z:(if b=p then none else F2 b)=some (.frz o u):=z
     split at z
     .cases z
     .rename_i hne
      have:=G.nf b o u z
      rwa [y4 hne]at this⟩ (xs6 O hs r2)
    .have hne:b≠p:=fun w=>by rw[w,hp]at j;ext j
     show (if b=p then none else F2 b)=some o
     rw[if_neg hne]
     show G.ff b o (by rw[y4 hne];show j)
    .have j:(if b=p then none else F2 b)=some o:=j
     split at j
     .cases j
     .exact G.fh b o j
    .have hn:(if b=p then none else F2 b)≠none:=hn
     split at hn
     .exact absurd rfl hn
     .rename_i hne
      show G.new b (by rw[y4 hne];show j) hn
   .cases e
  .cases e
 .exact⟨F0,H0,F,ρ,d,U,e,q⟩
end
section
noncomputable def LtAt (A:Around)(s:Shared)(v u:Value)(k:Bool):Prop:=∀(prog:Program)(w:World)(E:Value->Shared->Prop)(Q:Value->Shared->Prop),Q (.bool k) s->wpAny (model prog w) A (richCompare .Lt v u) Q E s
noncomputable def yw9 (A:Around)(s:Shared):List Value->List Value->Bool->Prop
 |[],[],k=>k=false
 |[],_::_,k=>k=true
 |_::_,[],k=>k=false
 |y::ys,x::xs,k=>∃ e,SeqAt.EqAt A s y x e/\((e=true/\yw9 A s ys xs k)\/(e=false/\LtAt A s y x k))
section
open PySem.SeqAt
open PySem.AutoSeq1 (wpAny_loadPart')
open PySem.MeetsSeq PySem.MeetsSeq2 PySem.MeetsSeq3
set_option maxHeartbeats 4000000 in
theorem xm5 (l b:Addr)(j i:Array Value)(n n2:Nat)(dd a1:Option Addr)(sl U:Array (Option Value))(k:Bool):
  Meets (Builtin.«tuple.__lt__» ⟨[.ref l,.ref b],[]⟩)
   (fun A R s=>s.heap.get? l=some { cls:=.type "tuple",dict:=dd,data:=.seq j n,slots:=sl }/\s.heap.get? b=some { cls:=.type "tuple",dict:=a1,data:=.seq i n2,slots:=U }/\
    yw9 A.in1 s j.toList i.toList k/\R (.ok (.ret (.bool k))) s):=
 .of_wp fun prog w A R s h=>by
  let⟨hp,g,d,tk,os⟩:=s;let⟨hl,hb,hx,h⟩:=h
  have f2:=AutoSeq1.sub_tuple_tuple
  wp_walk using wpAny_loadPart' hl,wpAny_loadPart' hb,wpAny_forIn_list _ (fun rest b s'=>b.1=none/\s'=⟨hp,g,d,tk,os⟩/\∃(vs ws:List Value),rest=vs.zip ws/\
   vs.length+i.size=ws.length+j.size/\yw9 A.in1 ⟨hp,g,d,tk,os⟩ vs ws k) _
  case turn=>
   rintro⟨y,x⟩ rest b s' ⟨O,rfl,vs,ws,I,z,G⟩
   cases vs with
   |nil=>rw[zip_nil_left]at I;ext I
   |cons a vs=>
    cases ws with
    |nil=>rw[zip_nil_right]at I;ext I
    |cons c ws=>
     rw[zip_cons_cons]at I
     injection I with Y N
     injection Y with hy Z
     subst hy Z
     simp only[length_cons]at z
     let⟨e,he,G⟩:=G
     show wpAny_bind (he prog w _ _ ?_)
     rcases G with⟨rfl,G⟩|⟨rfl,G⟩
     .wp_walk
      show⟨rfl,rfl,vs,ws,N,by lia,G⟩
     .have hri:=G prog w
      wp_walk using hri
      show⟨_,rfl,by simpa using h⟩
  case fin=>
   rintro⟨b1,b2⟩ s' ⟨O,rfl,vs,ws,I,z,G⟩
   simp only at O
   subst O
   have hv:k=decide (j.size<i.size):=by
    cases vs with
    |nil=>
     cases ws with
     |nil=>
      simp only[length_nil]at z
      rw[show k=false from G]
      show(decide_eq_false (by lia)).symm
     |cons c ws=>
      simp only[length_nil,length_cons]at z
      rw[show k=true from G]
      show(decide_eq_true (by lia)).symm
    |cons a vs=>
     cases ws with
     |nil=>
      simp only[length_nil,length_cons]at z
      rw[show k=false from G]
      show(decide_eq_false (by lia)).symm
     |cons c ws=>
      rw[zip_cons_cons]at I
      ext I
   rw[hv]at h
   wp_walk
   show⟨_,rfl,by simpa[Builtin.Tuple.tupleCompareSizes]using h⟩
  case h=>
   show⟨rfl,rfl,j.toList,i.toList,rfl,by simp;lia,hx⟩
set_option maxHeartbeats 4000000 in
theorem zh5 (l b:Addr)(G j:Array Value)(n n2:Nat)(dd a2:Option Addr)(sl a1:Array (Option Value))(r:Bool)(k:Nat):
  ∀ i:Nat,G.size-i=k->i<=G.size->i<=j.size->Meets (Builtin.«list.__eq__.loop» ⟨[.ref l,.ref b,rawInt i,rawInt 0],[]⟩)
   (fun A R s=>s.heap.get? l=some { cls:=.type "list",dict:=dd,data:=.seq G n,slots:=sl }/\s.heap.get? b=some { cls:=.type "list",dict:=a2,data:=.seq j n2,slots:=a1 }/\
    yw9 A.in1 s (G.toList.drop i) (j.toList.drop i) r/\R (.ok (.ret (.bool r))) s):=by
 induction k with
 |zero=>
  intro i hk h1 h2 prog w A R s h
  let⟨hp,g,d,tk,os⟩:=s;let⟨U,Y,I,h⟩:=h
  wp_walk using wpAny_loadPart' U,wpAny_loadPart' Y
  have N:G[((i:Nat):Int).toNat]? =none:=by simp;lia
  have e1:G.toList.drop i=[]:=drop_eq_nil_of_le (by simp;lia)
  rw[e1]at I
  have hr:r=decide (G.size<j.size):=by
   cases e2:j.toList.drop i with
   |nil=>
    rw[e2]at I
    have:j.size<=i:=by simpa using e2
    rw[show r=false from I]
    show(decide_eq_false (by lia)).symm
   |cons c ws=>
    rw[e2]at I
    have:i<j.size:=by
     rcases Nat.lt_or_ge i j.size with z|z
     .exact z
     .rw[drop_eq_nil_of_le (by simpa using z)]at e2;ext e2
    rw[show r=true from I]
    show(decide_eq_true (by lia)).symm
  rw[N]
  wp_walk using wpAny_loadPart' U,wpAny_loadPart' Y
  rw[hr]at h
  show h
 |succ k ih=>
  intro i hk h1 h2 prog w A R s h
  let⟨hp,g,d,tk,os⟩:=s;let⟨U,Y,I,h⟩:=h
  have Z:i<G.size:=by lia
  have N:G[((i:Nat):Int).toNat]? =some G[i]:=by simp[Z]
  have e1:G.toList.drop i=G[i]::G.toList.drop (i+1):=by rw[drop_eq_getElem_cons (by simpa using Z)];simp
  have hc:((i:Int)+1)=((i+1:Nat):Int):=by push_cast;rfl
  rw[e1]at I
  by_cases O:i<j.size
  .have hi2:j[((i:Nat):Int).toNat]? =some j[i]:=by simp[O]
   have e2:j.toList.drop i=j[i]::j.toList.drop (i+1):=by rw[drop_eq_getElem_cons (by simpa using O)];simp
   rw[e2]at I
   let⟨e,he,I⟩:=I
   wp_walk using wpAny_loadPart' U,wpAny_loadPart' Y
   rw[N,hi2]
   show wpAny_bind (he prog w _ _ ?_)
   rcases I with⟨rfl,I⟩|⟨rfl,I⟩
   .wp_walk
    rw[hc]
    show⟨plainId_quiet plain_eq_loop _,codeAny_builtin entry_eq_loop (by
     rw[Around.under_plainId plain_eq_loop _]
     show ih (i+1) (by lia) (by lia) (by lia) prog w A R _ ⟨U,Y,I,h⟩)⟩
   .have hri:=I prog w
    wp_walk using wpAny_loadPart' U,wpAny_loadPart' Y
    rw[N,hi2]
    wp_walk using hri
    show h
  .have hi2:j[((i:Nat):Int).toNat]? =none:=by simp;lia
   have e2:j.toList.drop i=[]:=drop_eq_nil_of_le (by simp;lia)
   rw[e2]at I
   have hr:r=decide (G.size<j.size):=by
    rw[show r=false from I]
    show(decide_eq_false (by lia)).symm
   wp_walk using wpAny_loadPart' U,wpAny_loadPart' Y
   rw[N,hi2]
   wp_walk using wpAny_loadPart' U,wpAny_loadPart' Y
   rw[hr]at h
   show h
set_option maxHeartbeats 4000000 in
theorem xg9 (l b:Addr)(j i:Array Value)(n I:Nat)(U G:Option Addr)(sl z:Array (Option Value))(r:Bool):
  Meets (Builtin.«list.__lt__» ⟨[.ref l,.ref b],[]⟩)
   (fun A R s=>s.heap.get? l=some { cls:=.type "list",dict:=U,data:=.seq j n,slots:=sl }/\s.heap.get? b=some { cls:=.type "list",dict:=G,data:=.seq i I,slots:=z }/\
    yw9 A.in1 s j.toList i.toList r/\R (.ok (.ret (.bool r))) s):=by
 intro prog w A R s h
 let⟨hp,g,d,tk,os⟩:=s;let⟨N,O,Y,h⟩:=h
 have Z:=AutoSeq1.sub_list_list
 wp_walk using wpAny_loadPart' N,wpAny_loadPart' O
 show⟨plainId_quiet plain_eq_loop _,codeAny_builtin entry_eq_loop (by
  rw[Around.under_plainId plain_eq_loop _]
  show zh5 l b j i n I U G sl z r _ 0 rfl (Nat.zero_le _) (Nat.zero_le _) prog w A R _ ⟨N,O,by simpa using Y,h⟩)⟩
end
noncomputable def lexF (eq lt:D->D->Option Bool):List D->List D->Option Bool
 |[],[]=>some false
 |[],_::_=>some true
 |_::_,[]=>some false
 |d::ds,e::es=>match eq d e with
  |some true=>lexF eq lt ds es
  |some false=>lt d e
  |none=>none
noncomputable def ltF:Nat->D->D->Option Bool
 |0,_,_=>none
 |n+1,.lst ds,.lst es=>lexF (eqF n) (ltF n) ds es
 |n+1,.tup ds,.tup es=>lexF (eqF n) (ltF n) ds es
 |_+1,.int i,.int j=>some (decide (i<j))
 |_+1,_,_=>none
section
variable {X:Cx}{pins:List (Addr×Obj)}{σ:St}{H:Hp}{s:Shared}
theorem yn3 (I:Inv X pins σ H s)(n:Nat){A:Around}(j:A.units+n<cLine)(i:∀{x y:V}{v u:Value}{d e:D}{k:Bool},Rep X.K H x d->Rep X.K H y e->RelV x v->RelV y u->ltF n d e=some k->LtAt A s v u k):
  ∀{xs ys:List V}{vs us:List Value}{ds es:List D}{k:Bool},Reps X.K H xs ds->Reps X.K H ys es->Vals xs vs->Vals ys us->lexF (eqF n) (ltF n) ds es=some k->yw9 A s vs us k
 |_,_,_,_,_,_,k,.nil,.nil,.nil,.nil,h=>by ext h;show rfl
 |_,_,_,_,_,_,k,.nil,.cons _ _,.nil,.cons _ _,h=>by ext h;show rfl
 |_,_,_,_,_,_,k,.cons _ _,.nil,.cons _ _,.nil,h=>by ext h;show rfl
 |_,_,_,_,_,_,k,.cons (d:=d) r1 t1,.cons (d:=e) r2 t2,.cons q1 p1,.cons q2 p2,h=>by
  unfold lexF at h
  cases hq:eqF n d e with
  |none=>rw[hq]at h;ext h
  |some b=>
   rw[hq]at h
   show⟨b,(yk2 I n j r1 r2 q1 q2 hq).1,?_⟩
   cases b with
   |true=>show .inl ⟨rfl,yn3 I n j i t1 t2 p1 p2 h⟩
   |false=>show .inr ⟨rfl,i r1 r2 q1 q2 h⟩
theorem yc3 (I:Inv X pins σ H s):∀(n:Nat){A:Around}{x y:V}{v u:Value}{d e:D}{k:Bool},A.units+n<cLine->Rep X.K H x d->Rep X.K H y e->RelV x v->RelV y u->ltF n d e=some k->LtAt A s v u k
 |0,A,x,y,v,u,d,e,k,hu,r1,r2,q1,q2,h=>by simp[ltF]at h
 |n+1,A,x,y,v,u,d,e,k,hu,r1,r2,q1,q2,h=>by
  have a6:A.units<cLine:=by lia
  have U:A.in1.units+n<cLine:=by show A.units+1+n<cLine;lia
  cases d with
  |int i=>
   cases e with
   |int j=>
    obtain rfl:=r1.i'
    obtain rfl:=r2.i'
    let⟨t,rfl⟩:=q1
    let⟨t',rfl⟩:=q2
    ext h
    show fun prog w E Q hQ=>HT.rcLt_int A s i t j t' prog w E Q hQ
   |_=>ext h
  |lst ab=>
   cases e with
   |lst aa=>
    let⟨a1,a9,rfl,sq,rs⟩:=r1.l'
    let⟨a2,a8,rfl,Z,a4⟩:=r2.l'
    ext q1;ext q2
    let⟨its,vr,⟨⟨cls,dd,data,sl⟩,m,ho,hc,ad,hd⟩,_⟩:=I.list sq
    let⟨z,Y,⟨⟨a7,a5,data2,a3⟩,m2,G,O,ac,N⟩,_⟩:=I.list Z
    simp only at hc hd O N
    subst hc hd O N
    have L:=yn3 I n U (fun a b c d e=>yc3 I n U a b c d e) rs a4 vr Y (show lexF (eqF n) (ltF n) _ _=some k from h)
    intro prog w E Q hQ
    show richCompare_meets_room (op:=.Lt) ⟨_,ho,rfl⟩ ⟨_,G,rfl⟩ PySem.F.slot_list_lt PySem.F.entry_list_lt (PySem.F.args_list_lt_2 _ _) (xg9 _ _ its.toArray z.toArray m m2 dd a5 sl a3 k)
     ⟨ho,G,by simpa using L,show Value.bool k≠Value.notImplemented/\Q (.bool k) s from⟨(fun x=>nomatch x),hQ⟩⟩ a6
   |_=>ext h
  |tup ab=>
   cases e with
   |tup aa=>
    let⟨a1,a9,rfl,sq,rs⟩:=r1.t'
    let⟨a2,a8,rfl,Z,a4⟩:=r2.t'
    ext q1;ext q2
    let⟨its,vr,⟨⟨cls,dd,data,sl⟩,ho,hc,m,hd⟩,_⟩:=I.tuple sq
    let⟨z,Y,⟨⟨a7,a5,data2,a3⟩,G,O,m2,N⟩,_⟩:=I.tuple Z
    simp only at hc hd O N
    subst hc hd O N
    have L:=yn3 I n U (fun a b c d e=>yc3 I n U a b c d e) rs a4 vr Y (show lexF (eqF n) (ltF n) _ _=some k from h)
    intro prog w E Q hQ
    show richCompare_meets_room (op:=.Lt) ⟨_,ho,rfl⟩ ⟨_,G,rfl⟩ PySem.F.slot_tuple_lt PySem.F.entry_tuple_lt (PySem.F.args_tuple_lt_2 _ _) (xm5 _ _ its.toArray z.toArray m m2 dd a5 sl a3 k)
     ⟨ho,G,by simpa using L,show Value.bool k≠Value.notImplemented/\Q (.bool k) s from⟨(fun x=>nomatch x),hQ⟩⟩ a6
   |_=>ext h
  |_=>ext h
end
end
section
noncomputable def zf9 (X:Cx)(kv:Value)(mk:D->Option D):Prop:=∀(pins:List (Addr×Obj))(σ:St)(H F:Hp)(s:Shared)(x:V)(u:Value)(d kd:D),Inv X pins σ H s->Same F H->Rep X.K F x d->RelV x u->mk d=some kd->
 wpAny (model X.prog X.w) X.A.in1 (call kv [u]) (fun w s'=>∃ y F' H',Inv X pins σ H' s'/\RelV y w/\Ext F H F' H'/\Rep X.K F' y kd) (fun _ _=>False) s
noncomputable def shOf:Option Rt->Option D
 |some (.sh d)=>some d
 |some (.fr es)=>some (.lst es)
 |_=>none
theorem zt0 {X:Cx}{k:Nat}{f:Addr}{fd:FuncData}{p:Str}{m:MF}(F:FnOk X.prog X.w X.K X.mg X.base CX0 k f fd [p] (spR X.K 1 m))(hr:Room k X.A.in1)(hb:Binds X.K fd [p] []):zf9 X (.ref f) (fun d=>shOf (m [d])):=by
 intro pins σ H N s x u d kd I O r Z hm
 have hm:shOf (m [d])=some kd:=hm
 have sp:spR X.K 1 m [x] H (fun v H'=>∃ F',Ext N H F' H'/\Rep X.K F' v kd) E0:=by
  cases h:m [d]with
  |none=>rw[h]at hm;ext hm
  |some t=>
   rw[h]at hm
   cases t with
   |sh g=>ext hm;show⟨rfl,N,[d],_,O,.cons r .nil,h,fun v F' H' j G=>⟨F',j,G⟩⟩
   |fr gs=>ext hm;show⟨rfl,N,[d],_,O,.cons r .nil,h,fun q xs F' H' j hp U hH rs=>⟨upd F' q (.lst xs),j.freeze U hp hH,.lst (SqL.of y3) (rs.mono ((Same.refl F').put U))⟩⟩
   |pr _ _=>ext hm
 have i:=I.env0
 have env:Env0 X.prog X.w X.K X.mg X.base X.A.in1 X.stack s H:=⟨i.frames,i.mod,i.bs,i.bsz,i.funs,i.frf,i.hok,i.bare⟩
 show wpAny_call (codeAny_mono (F.run X.A.in1 X.stack s H ⟨[u],[]⟩ [u] [x] _ E0 hr env (hb s [u] I.kIn rfl) (.cons Z .nil) sp) fun r s' z=>?_)
 cases r with
 |error e=>show z.elim
 |ok fl=>
  cases fl with
  |ret v=>
   let⟨y,H',I',Y,F',j,G⟩:=I.after z
   show⟨y,F',H',I',Y,j,G⟩
  |next=>show z.elim
  |brk=>show z.elim
  |cont=>show z.elim
noncomputable def minF (mk:D->Option D):List D->D->D->Option D
 |[],b,_=>some b
 |d::ds,b,kb=>match mk d with
  |some kd=>(match ltF 8 kd kb with |some true=>minF mk ds d kd|some false=>minF mk ds b kb|none=>none)
  |none=>none
section
variable {X:Cx}{pins:List (Addr×Obj)}{σ:St}
theorem FpOk.now {H H':Hp}{b:Addr}(h:FpOk X pins H b)(hn:H' b=none):FpOk X pins H' b:=⟨hn,h.2⟩
theorem Inv.pin2 {H:Hp}{s:Shared}{a b:Addr}{oa ob:Obj}(I:Inv X pins σ H s)(ha:FpOk X pins H a)(i:FpOk X pins H b)(z:s.heap.get? a=some oa)(j:s.heap.get? b=some ob)(N:∀ v,oa.data≠ .cell v)(G:∀ v,ob.data≠ .cell v):Inv X (pins++[(a,oa),(b,ob)]) σ H s:=
 I.pins_of fun p hp=>by
  rcases List.mem_append.mp hp with hp|hp
  .exact I.pin p (mem_append_right _ hp)
  .simp only[mem_cons,not_mem_nil,or_false]at hp
   rcases hp with rfl|rfl
   .exact⟨z,ha.1,ha.2.1,ha.2.2.1,N⟩
   .exact⟨j,i.1,i.2.1,i.2.2.1,G⟩
set_option maxHeartbeats 8000000 in
theorem yd3 {q:Addr}{mk:D->Option D}(hk:zf9 X (.ref q) mk)(hc:X.calm=true)(hu:X.A.units+64<cLine){l I S:Addr}{xs:List V}{ds:List D}{kw:List (Str×Value)}{dm:D}(a2:I≠S)(ah:l≠I)(ag:l≠S):
  ∀(r j:Nat)(H F H0 F0:Hp)(s:Shared)(xb yb:V)(U Y:Value)(db G:D)(c:Nat)(R:Result->Shared->Prop),
   ds.length-(j+1)=r->j+1<=ds.length->Inv X pins σ H s->Ext F0 H0 F H->SqL X.K H l xs->Reps X.K F xs ds->s.heap.IsListIter I l (j+1)->s.heap.get? S=some (seqObj "list" #[U,Y] c)->FpOk X pins H I->FpOk X pins H S->
   RelV xb U->Rep X.K F xb db->RelV yb Y->Rep X.K F yb G->minF mk (ds.drop (j+1)) db G=some dm->
   (∀ x v F' H' s',Inv X pins σ H' s'->RelV x v->Ext F0 H0 F' H'->Rep X.K F' x dm->R (.ok (.ret v)) s')->
   codeAny (model X.prog X.w) X.A (.builtin "min.loop" ⟨[.ref I,.ref q,.ref S],kw⟩) R s:=by
 have O:(toString "min"++toString ".loop":String)="min.loop":=by decide
 intro r
 induction r with
 |zero=>
  intro j H F H0 F0 s xb yb U Y db G c R hr hj I' ext sq rs a1 hS fI fS rb pb ry py hm hR
  have ac:j+1=ds.length:=by lia
  let⟨its,vr,pl,_⟩:=I'.list sq
  have zl:its.length=ds.length:=by rw[<-vr.length,rs.length]
  rw[ac,drop_length]at hm
  have hm:some db=some dm:=hm
  ext hm
  show codeAny_builtin PySem.F.entry_min_loop ?_
  rw[Around.under_plainId PySem.F.plain_min_loop _]
  show wpAny _ X.A.in1 (seqItems? (.ref S) >>= _) _ _ _
  show wpAny_bind (wpAny_seqItems hS rfl ?_)
  show wpAny _ X.A.in1 (tryCatch (pyNext (.ref I)) _ >>= _) _ _ _
  show wpAny_bind (wpAny_tryCatch (wpAny_pyNext_list_end (I'.ok.hd hc) a1 pl.isList (by simp;lia) fun h' a7=>?_))
  have af:h'.get? S=some (seqObj "list" #[U,Y] c):=a7 S _ (Ne.symm a2) hS
  have s1:=Heap.SameBut.update h' S (Obj.mapSeq fun _=>(#[]:Array Value))
  show wpAny _ X.A.in1 (updateSeq S (fun _=>#[]) >>= _) _ _ _
  show wpAny_bind ?_
  show wpAny_updateSeq af rfl (wpAny_bind (wpAny_letGo (wpAny_pure ?_)))
  have I9:Inv X pins σ H { s with heap:=h'.update S (Obj.mapSeq fun _=>(#[]:Array Value)),toks:=s.toks }:=I'.turnedL (fp:=[I,S]) (t':=s.toks) (fun b o i e=>by
   simp only[mem_cons,not_mem_nil,or_false,not_or]at i
   show(s1.2 b i.2).trans (a7 b o i.1 e)) (fun b i=>by
   simp only[mem_cons,not_mem_nil,or_false]at i
   rcases i with rfl|rfl <;> assumption)
  show hR xb U F H _ I9 rb ext pb
 |succ r ih=>
  intro j H F H0 F0 s xb yb U Y db G c R hr hj I' ext sq rs a1 hS fI fS rb pb ry py hm hR
  have Z:j+1<ds.length:=by lia
  let⟨its,vr,pl,_⟩:=I'.list sq
  have zl:its.length=ds.length:=by rw[<-vr.length,rs.length]
  obtain⟨d,hd⟩:∃ d,ds[j+1]? =some d:=⟨_,getElem?_eq_getElem Z⟩
  let⟨x,hx,px⟩:=rs.get hd
  let⟨v,hv,rx⟩:=vr.get hx
  rw[g7 hd]at hm
  unfold minF at hm
  cases hkd:mk d with
  |none=>rw[hkd]at hm;ext hm
  |some kd=>
   rw[hkd]at hm
   dsimp only at hm
   show codeAny_builtin PySem.F.entry_min_loop ?_
   rw[Around.under_plainId PySem.F.plain_min_loop _]
   show wpAny _ X.A.in1 (seqItems? (.ref S) >>= _) _ _ _
   show wpAny_bind (wpAny_seqItems hS rfl ?_)
   show wpAny _ X.A.in1 (tryCatch (pyNext (.ref I)) _ >>= _) _ _ _
   show wpAny_bind (wpAny_tryCatch (wpAny_pyNext_list_item a1 pl.isList (by simpa using hv) fun h1 a9 s1=>?_))
   have I1:Inv X pins σ H { s with heap:=h1,toks:=s.toks }:=I'.turnedL (fp:=[I]) (fun b o i e=>s1.extBut b o (by simpa using i) e) (fun b i=>by rw[List.mem_singleton.mp i];show fI)
   have ae:h1.get? S=some (seqObj "list" #[U,Y] c):=s1.extBut _ _ (Ne.symm a2) hS
   let⟨oI,eI,cI,dI⟩:=id a9
   have Ip:=I1.pin2 fI fS eI ae (fun v z=>by rw[dI]at z;ext z) (fun v z=>by ext z)
   show wpAny _ X.A.in1 (tryCatch (holding [v] (call (.ref q) [v])) _ >>= _) _ _ _
   show wpAny_bind (wpAny_tryCatch (wpAny_holding (wpAny_mono (hk (pins++[(I,oI),(S,seqObj "list" #[U,Y] c)]) σ H F _ x v d kd Ip ext.fh px rx hkd) (fun w s2 hw=>?_) fun _ _ z=>z.elim)))
   let⟨y,F2,H2,I2,a5,N,a6⟩:=hw
   have pI:=I2.pin (I,oI) (by simp)
   have pS:=I2.pin (S,seqObj "list" #[U,Y] c) (by simp)
   have a4:Inv X pins σ H2 s2:=I2.unpinned
   have ab:FpOk X pins H2 I:=fI.now pI.2.1
   have a3:FpOk X pins H2 S:=fS.now pS.2.1
   have a8:s2.heap.IsListIter I l (j+1+1):=⟨oI,pI.1,cI,dI⟩
   cases hlt8:ltF 8 kd G with
   |none=>rw[hlt8]at hm;ext hm
   |some bt=>
    rw[hlt8]at hm
    have aa:=yc3 a4 8 (A:=X.A.in1) (by show X.A.units+1+8<cLine;lia) (a6.mono N.fh) ((py.mono N.ff).mono N.fh) a5 ry hlt8
    show wpAny _ X.A.in1 (tryCatch (holding [v,w] (richCompare .Lt w Y >>= _)) _ >>= _) _ _ _
    show wpAny_bind (wpAny_tryCatch (wpAny_holding (wpAny_bind (aa X.prog X.w _ _ ?_))))
    show wpAny_bind (wpAny_holding (wpAny_truthy_bool ?_))
    show wpAny_bind (wpAny_letGo (wpAny_pure ?_))
    cases bt with
    |true=>
     have s3:=Heap.SameBut.update s2.heap S (Obj.mapSeq fun _=>#[v,w])
     obtain⟨c2,ad⟩:∃ c2,(s2.heap.update S (Obj.mapSeq fun _=>#[v,w])).get? S=some (seqObj "list" #[v,w] c2):=⟨_,get?_update_seq pS.1 fun _=>#[v,w]⟩
     simp only[if_true]
     show wpAny_bind ?_
     show wpAny_updateSeq pS.1 rfl (wpAny_bind (wpAny_letGo ?_))
     rw[O]
     have I3:Inv X pins σ H2 { s2 with heap:=s2.heap.update S (Obj.mapSeq fun _=>#[v,w]),toks:=s2.toks }:=a4.turnedL (fp:=[S]) (fun b o i e=>(s3.2 b (by simpa using i)).trans e) (fun b i=>by rw[List.mem_singleton.mp i];show a3)
     show wpAny_pure ⟨plainId_quiet PySem.F.plain_min_loop _,ih (j+1) H2 F2 H0 F0 _ x y v w d kd c2 R (by lia) Z I3 (ext.trans N) (N.hh.seq sq) (rs.mono N.ff) ⟨oI,(s3.2 I a2).trans pI.1,cI,dI⟩ ad ab a3 rx (px.mono N.ff) a5 a6 hm hR⟩
    |false=>
     simp only[Bool.false_eq_true,if_false]
     show wpAny_bind (wpAny_letGo ?_)
     rw[O]
     show wpAny_pure ⟨plainId_quiet PySem.F.plain_min_loop _,ih (j+1) H2 F2 H0 F0 _ xb yb U Y db G c R (by lia) Z a4 (ext.trans N) (N.hh.seq sq) (rs.mono N.ff) a8 pS.1 ab a3 rb (pb.mono N.ff) ry (py.mono N.ff) hm hR⟩
end
end
section
theorem zf4 (a v u:Value):argsOk "min" ⟨[a],[(Str.ofString "key",v),(Str.ofString "default",u)]⟩:=by unfold argsOk;kernel_rfl
noncomputable def minD (mk:D->Option D)(ds:List D)(d0:D):Option D:=match ds with
 |[]=>some d0
 |d::ds=>(match mk d with |some kd=>minF mk ds d kd|none=>none)
section
variable {X:Cx}{pins:List (Addr×Obj)}{σ:St}
set_option maxHeartbeats 8000000 in
theorem xr0 {q:Addr}{mk:D->Option D}(hk:zf9 X (.ref q) mk)(hc:X.calm=true)(hu:X.A.units+64<cLine){l:Addr}{xs:List V}{ds:List D}{dm d0:D}{H F:Hp}{s:Shared}{x0:V}{U:Value}{E:Value->Shared->Prop}{Q:Value->Shared->Prop}
  (I:Inv X pins σ H s) (sf:Same F H) (sq:SqL X.K H l xs) (rs:Reps X.K F xs ds) (r0:RelV x0 U) (p0:Rep X.K F x0 d0) (hm:minD mk ds d0=some dm)
  (hQ:∀ x v F' H' s',Inv X pins σ H' s'->RelV x v->Ext F H F' H'->Rep X.K F' x dm->Q v s'):
  wpAny (model X.prog X.w) X.A (call (.builtin "min") [.ref l] [(Str.ofString "key",.ref q),(Str.ofString "default",U)]) Q E s:=by
 have G:(toString "min"++toString ".loop":String)="min.loop":=by decide
 let⟨its,vr,pl,_⟩:=I.list sq
 have a2:=pl.isList
 let⟨ol,a9,_⟩:=id a2
 have a3:l<s.heap.objs.size:=Heap.lt_size a9
 show kmk_tree PySem.F.kind_min PySem.F.plain_min PySem.F.entry_min (zf4 _ _ _) ?_
 show wpAny _ X.A.in1 (Builtin.Builtins.bindParams "min" ["key","default"] 0 ⟨[],[(Str.ofString "key",.ref q),(Str.ofString "default",U)]⟩ >>= _) _ _ s
 show wpAny_bind (wpAny_of_eq (show Builtin.Builtins.bindParams "min" ["key","default"] 0 ⟨[],[(Str.ofString "key",.ref q),(Str.ofString "default",U)]⟩=pure [some (.ref q),some U]from rfl) ?_)
 show wpAny_bind (wpAny_pure ?_)
 show wpAny_bind (wpAny_pyIter_list a2 ?_)
 show wpAny_bind (wpAny_newList ?_ (Nat.zero_le _))
 rw[G]
 show wpAny_pure ⟨plainId_quiet PySem.F.plain_min_loop _,?_⟩
 generalize N:({ cls:=.type "list_iterator",data:=.fields #[.ref l,.int 0 0] }:Obj)=oI0
 have hS:(s.heap.push oI0).objs.size=s.heap.objs.size+1:=size_push' ..
 have ab:l≠s.heap.objs.size:=Nat.ne_of_lt a3
 have aa:l≠(s.heap.push oI0).objs.size:=by rw[hS];show Nat.ne_of_lt (Nat.lt_succ_of_lt a3)
 have O:s.heap.objs.size≠(s.heap.push oI0).objs.size:=by rw[hS];show Nat.ne_of_lt (Nat.lt_succ_self _)
 have gI:((s.heap.push oI0).push (seqObj "list" #[] 0)).get? s.heap.objs.size=some oI0:=Heap.get?_push_of_some _ (Heap.get?_push_size _ (by rw[<-N];rfl))
 have gS:((s.heap.push oI0).push (seqObj "list" #[] 0)).get? (s.heap.push oI0).objs.size=some (seqObj "list" #[] 0):=Heap.get?_push_size _ rfl
 have fI:FpOk X pins H s.heap.objs.size:=I.fpOk (Nat.le_refl _) (I.hok.fresh (Nat.le_refl _))
 have fS:FpOk X pins H (s.heap.push oI0).objs.size:=I.fpOk (by rw[hS];show Nat.le_succ _) (I.hok.fresh (by rw[hS];show Nat.le_succ _))
 have I0:Inv X pins σ H { s with heap:=(s.heap.push oI0).push (seqObj "list" #[] 0),toks:=s.toks }:=I.turnedL (fp:=[]) (fun b o _ e=>Heap.get?_push_of_some _ (Heap.get?_push_of_some _ e)) (fun b j=>by ext j)
 generalize (s.heap.push oI0).objs.size=S at*
 generalize hI:s.heap.objs.size=J at*
 generalize (s.heap.push oI0).push (seqObj "list" #[] 0)=h0 at*
 have a5:h0.IsListIter J l 0:=⟨_,gI,by rw[<-N],by rw[<-N];rfl⟩
 have zl:its.length=ds.length:=by rw[<-vr.length,rs.length]
 let⟨its',Z,a1,_⟩:=I0.list sq
 have Y:its'.length=ds.length:=by rw[<-Z.length,rs.length]
 show codeAny_builtin PySem.F.entry_min_loop ?_
 rw[Around.under_plainId PySem.F.plain_min_loop _]
 show wpAny _ X.A.in1 (seqItems? (.ref S) >>= _) _ _ _
 show wpAny_bind (wpAny_seqItems gS rfl ?_)
 show wpAny _ X.A.in1 (tryCatch (pyNext (.ref J)) _ >>= _) _ _ _
 cases ds with
 |nil=>
  have hm:some d0=some dm:=hm
  ext hm
  show wpAny_bind (wpAny_tryCatch (wpAny_pyNext_list_end (I.ok.hd hc) a5 a1.isList (by simp at Y ⊢;simp[Y]) fun h' ac=>?_))
  show wpAny_bind (wpAny_rule (wpAny_pure ?_))
  have I9:=I0.turnedL (h':=h') (fp:=[J]) (t':=s.toks) (fun b o j e=>ac b o (by simpa using j) e) (fun b j=>by rw[List.mem_singleton.mp j];show fI)
  show hQ x0 U F H _ I9 r0 (Ext.refl sf) p0
 |cons d ds=>
  let⟨x,hx,px⟩:=rs.get (i:=0) (d:=d) rfl
  let⟨v,hv,rx⟩:=Z.get hx
  delta minD at hm
  dsimp only at hm
  cases hkd:mk d with
  |none=>rw[hkd]at hm;ext hm
  |some kd=>
   rw[hkd]at hm
   dsimp only at hm
   show wpAny_bind (wpAny_tryCatch (wpAny_pyNext_list_item a5 a1.isList (by simpa using hv) fun h1 a4 s1=>?_))
   have I1:=I0.turnedL (h':=h1) (t':=s.toks) (fp:=[J]) (fun b o j e=>s1.extBut b o (by simpa using j) e) (fun b j=>by rw[List.mem_singleton.mp j];show fI)
   have ae:h1.get? S=some (seqObj "list" #[] 0):=s1.extBut _ _ (Ne.symm O) gS
   let⟨oI,eI,cI,dI⟩:=id a4
   have Ip:=I1.pin2 fI fS eI ae (fun v z=>by rw[dI]at z;ext z) (fun v z=>by ext z)
   show wpAny _ X.A.in1 (tryCatch (holding [v] (call (.ref q) [v])) _ >>= _) _ _ _
   show wpAny_bind (wpAny_tryCatch (wpAny_holding (wpAny_mono (hk (pins++[(J,oI),(S,seqObj "list" #[] 0)]) σ H F _ x v d kd Ip sf px rx hkd) (fun w s2 hw=>?_) fun _ _ z=>z.elim)))
   let⟨y,F2,H2,I2,a7,x2,a8⟩:=hw
   have pI:=I2.pin (J,oI) (by simp)
   have pS:=I2.pin (S,seqObj "list" #[] 0) (by simp)
   have ag:Inv X pins σ H2 s2:=I2.unpinned
   have af:FpOk X pins H2 J:=fI.now pI.2.1
   have a6:FpOk X pins H2 S:=fS.now pS.2.1
   have s3:=Heap.SameBut.update s2.heap S (Obj.mapSeq fun _=>#[v,w])
   obtain⟨c2,ad⟩:∃ c2,(s2.heap.update S (Obj.mapSeq fun _=>#[v,w])).get? S=some (seqObj "list" #[v,w] c2):=⟨_,get?_update_seq pS.1 fun _=>#[v,w]⟩
   show wpAny _ X.A.in1 (updateSeq S (fun _=>#[v,w]) >>= _) _ _ _
   show wpAny_bind (wpAny_updateSeq pS.1 rfl ?_)
   rw[G]
   have I3:Inv X pins σ H2 { s2 with heap:=s2.heap.update S (Obj.mapSeq fun _=>#[v,w]),toks:=s2.toks }:=ag.turnedL (fp:=[S]) (fun b o j e=>(s3.2 b (by simpa using j)).trans e) (fun b j=>by rw[List.mem_singleton.mp j];show a6)
   show wpAny_pure ⟨plainId_quiet PySem.F.plain_min_loop _,yd3 hk hc hu (ds:=d::ds) (dm:=dm) O ab aa _ 0 H2 F2 H F _ x y v w d kd c2 _ rfl (by simp) I3 x2 (x2.hh.seq sq) (rs.mono x2.ff) ⟨oI,(s3.2 J O).trans pI.1,cI,dI⟩ ad af a6 rx (px.mono x2.ff) a7 a8 hm fun x v F' H' s' a b c d=>hQ x v F' H' s' a b c d⟩
@[irreducible] noncomputable def yx5 (mk:D->Option D)(m:ML)(md:ME):ME:=fun ρ=>(m ρ).bind fun ds=>(md ρ).bind fun d0=>minD mk ds d0
theorem yx4 {mk:D->Option D}{m:ML}{i:ME}{ρ:Ro}{g:D}(h:yx5 mk m i ρ=some g):∃ ds d0,m ρ=some ds/\i ρ=some d0/\minD mk ds d0=some g:=by
 delta yx5 at h
 cases h1:m ρ with
 |none=>rw[h1]at h;ext h
 |some d=>
  cases h2:i ρ with
  |none=>rw[h1,h2]at h;ext h
  |some e=>rw[h1,h2]at h;show⟨d,e,rfl,rfl,h⟩
theorem yd0 {mk:D->Option D}{m:ML}{i:ME}{ρ:Ro}{ds:List D}{d0:D}(h1:m ρ=some ds)(h2:i ρ=some d0):yx5 mk m i ρ=minD mk ds d0:=by
 delta yx5
 rw[h1,h2];rfl
theorem xt3 {q:Addr}{mk:D->Option D}{x:Str}{p pf kp z pos:Pos}{e ed:Expr}{m:ML}{md:ME}(hk:zf9 X (.ref q) mk)(hc:X.calm=true)(hu:X.A.units+64<cLine)(hg:Gl X "min")(hm:X.mg "min"=none)(Y:Gl X x)(U:X.mg x=some (.ref q))(ha:PB X e m)(hd:PD X ed md)
  (Z:(x==("__debug__":Str))=false:=by decide) (hs:starEach (e::[]) X.env=(false,eval e X.env)::starEach [] X.env:=by rfl):
  PD X (.Call (.Name "min" p) [e] [⟨some "key",.Name x pf,kp⟩,⟨some "default",ed,z⟩] pos) (yx5 mk m md):=by
 intro pins s σ H Q I h
 let⟨F0,H0,F,ρ,g,rl,em,q0⟩:=h
 let⟨ds,d0,h1,h2,h3⟩:=yx4 em
 show wpAny_Call_Name_kw (U7 I hg hm PyProof.Rows.boot_min ?_ (by decide) (by decide))
 have A:=j4 ha pa_nil hs pos pins s σ H (fun vs H1=>∃ p xs F1,vs=[.ref p]/\Ext F H F1 H1/\SqL X.K H1 p xs/\Reps X.K F1 xs ds) I ⟨F0,H0,F,ρ,ds,rl,h1,fun p xs F1 H1 G s1 r1=>⟨p,xs,F1,rfl,G,s1,r1⟩⟩
 show callWith_kw (thn A fun us s1 i=>?_) (by rw[hs];rfl) (by rw[hs];rfl)
 let⟨vs,H1,I1,r1,p,xs,F1,ev,G,sq,rs⟩:=i
 subst ev
 let⟨u,rfl,ru⟩:=P6 r1
 ext ru
 have B:=C0 (nm:=some "key") (kpos:=kp) (ys6 (v:=.ref q) (pos:=pf) Y U rfl Z) (C0 (nm:=some "default") (kpos:=z) hd zc0) pos pins s1 σ H1 (fun vs H2=>∃ y F2,vs=[.ref q,y]/\Ext F1 H1 F2 H2/\Rep X.K F2 y d0) I1 ⟨F0,H0,F1,ρ,d0,rl.go G,h2,fun y F2 H2 j r2=>⟨y,F2,rfl,j,r2⟩⟩
 show thn B fun us s2 i=>?_
 let⟨vs,H2,I2,r2,y,F2,ev,j,p0⟩:=i
 subst ev
 let⟨u1,u2,rfl,O,N⟩:=yh5 r2
 ext O
 show xr0 hk hc hu I2 j.fh (j.hh.seq sq) (rs.mono j.ff) N p0 h3 fun x v F' H' s' I' rx x3 px=>⟨x,H',I',rx,q0 x F' H' ((G.trans j).trans x3) px⟩
end
end
section
section
variable {prog:Program}{w:World}{A:Around}{E:Value->Shared->Prop}{s:Shared}
theorem G0:isSubtype (.type "range_iterator") (.type "reversed")=pure false:=by rw[isSubtype_type];kernel_rfl
noncomputable def zr0 (x left step:Int):Obj:={ cls:=.type "range_iterator",dict:=none,data:=.fields #[rawInt x,rawInt left,rawInt step],slots:=#[] }
theorem O5 {l:Addr}{j:Int}{t u v:Tok}{Q:Value->Shared->Prop}(i:IsRange s.heap l 0 j 1 t u v)(h1:-(2^62)<=j)(h2:j<2^62)
  (h:Q (.ref s.heap.objs.size) { s with heap:=s.heap.push (zr0 ((j.toNat:Int)-1) j.toNat (-1)) }):wpAny (model prog w) A (call (.builtin "range.__reversed__") [.ref l]) Q E s:=by
 have I:s.TypeIs (.ref l) "range":=⟨_,i,rfl⟩
 show wpAny_call_entry F.slot_range_reversed I F.entry_range_reversed ?_ (F.args_range_reversed_1 _)
 have z:Builtin.Range.rangeSize 0 j 1=(j.toNat:Int):=by rw[rangeSize_one];split <;> lia
 unfold Builtin.«range.__reversed__»
 show wpAny_bind (wpAny_of_eq (a:=Value.ref l) rfl ?_)
 unfold Builtin.Range.rangeFields
 show wpAny_bind ?_
 show wpAny_bind (wpAny_field i rfl (x:=.int 0 t) rfl ?_)
 show wpAny_bind (wpAny_of_eq (a:=some (0:Int)) rfl ?_)
 show wpAny_bind (wpAny_field i rfl (x:=.int j u) rfl ?_)
 show wpAny_bind (wpAny_of_eq (a:=some j) rfl ?_)
 show wpAny_bind (wpAny_field i rfl (x:=.int 1 v) rfl ?_)
 show wpAny_bind (wpAny_of_eq (a:=some (1:Int)) rfl ?_)
 show wpAny_pure ?_
 dsimp only
 rw[z]
 have G:(Builtin.Range.rangeFitsLong 0&&Builtin.Range.rangeFitsLong j&&Builtin.Range.rangeFitsLong 1&&Builtin.Range.rangeFitsLong (-1)&&Builtin.Range.rangeFitsLong (0-1)&&Builtin.Range.rangeFitsLong (j.toNat:Int))=true:=by
  simp only[Builtin.Range.rangeFitsLong,Bool.and_eq_true,decide_eq_true_eq]
  lia
 simp only[G,Bool.not_true,Bool.false_eq_true,if_false,if_true]
 have e:(0:Int)+((j.toNat:Int)-1)*1=(j.toNat:Int)-1:=by lia
 rw[e]
 show wpAny_bind (wpAny_newObj_type (wpAny_pure ⟨_,rfl,h⟩))
theorem M1 {l:Addr}{j:Int}{t u v:Tok}{Q₁:Value->Shared->Prop}(i:IsRange s.heap l 0 j 1 t u v)(h1:-(2^62)<=j)(h2:j<2^62)
  (h:Q₁ (.ref s.heap.objs.size) { s with heap:=s.heap.push (zr0 ((j.toNat:Int)-1) j.toNat (-1)) }):
  codeAny (model prog w) A (.call (.builtin "reversed.__new__") ⟨[.type "reversed",.ref l],[]⟩) (wants Q₁ E) s:=by
 have z:s.TypeIs (.ref l) "range":=⟨_,i,rfl⟩
 show codeAny_of_tree ?_
 show wpAny _ A.in1 (do checkBuiltinCall "reversed.__new__" ⟨[.type "reversed",.ref l],[]⟩;again (.builtin "reversed.__new__" ⟨[.type "reversed",.ref l],[]⟩)) _ _ s
 show wpAny_bind (wpAny_of_eq (F.newCall_reversed_1 _) (wpAny_pure ⟨plainId_quiet F.plain_reversed_new _,codeAny_builtin F.entry_reversed_new ?_⟩))
 rw[Around.under_plainId F.plain_reversed_new _]
 unfold Builtin.«reversed.__new__»
 show wpAny_bind (wpAny_of_eq (newClass_reversed _) ?_)
 try dsimp only
 show wpAny_bind (wpAny_of_eq (a:=()) (by first|rfl|kernel_rfl) ?_)
 show wpAny_bind (wpAny_of_eq (a:=()) (by first|rfl|kernel_rfl) ?_)
 try dsimp only
 show wpAny_bind (wpAny_specialOf z F.slot_range_reversed.lookup ?_)
 try dsimp only
 show wpAny_bind (wpAny_of_eq (F.slot_range_reversed.bind _) ?_)
 try dsimp only
 first
 |rw[if_neg (show ¬ ((Value.builtin "range.__reversed__"==Value.none)=true)from Bool.false_ne_true)]
 | (show wpAny _ _ (if (Value.builtin "range.__reversed__"==Value.none)=true then _ else _) _ _ _;rw[if_neg (show ¬ ((Value.builtin "range.__reversed__"==Value.none)=true)from Bool.false_ne_true)])
 show wpAny_bind (wpAny_rule ?_)
 show wpAny_bind (m:=runValue (.call (.builtin "range.__reversed__") ⟨[.ref l],[]⟩)) (show wpAny _ _ (call (.builtin "range.__reversed__") [.ref l]) _ _ _ from O5 i h1 h2 ?_)
 first
 |show wpAny_pure h
 |show wpAny_bind (wpAny_pure (wpAny_pure h))
theorem O4 {l:Addr}{j:Int}{t u v:Tok}{Q:Value->Shared->Prop}(z:IsRange s.heap l 0 j 1 t u v)(h1:-(2^62)<=j)(h2:j<2^62)
  (h:Q (.ref s.heap.objs.size) { s with heap:=s.heap.push (zr0 ((j.toNat:Int)-1) j.toNat (-1)) }):wpAny (model prog w) A (call (.type "reversed") [.ref l]) Q E s:=by
 show callType_other (U:="range_iterator") (Q₁:=fun obj i=>obj= .ref s.heap.objs.size/\i={ s with heap:=s.heap.push (zr0 ((j.toNat:Int)-1) j.toNat (-1)) }) (by decide +kernel) F.create_reversed ⟨_,_,F.mro_reversed⟩ F.made_reversed G0 (F.typeCall_reversed_1 _) (M1 z h1 h2 ⟨rfl,rfl⟩) ?_
 rintro obj i ⟨rfl,rfl⟩
 show⟨⟨_,Heap.get?_push_size _ rfl,rfl⟩,h⟩
end
noncomputable def Itdn (hi:Int)(n:Nat):It:=⟨fun i _=>i<n,fun i H x H'=>H'=H/\x= .int (hi-i),fun i _=>n<=i⟩
theorem zs3 {P:Program}{w:World}{K:PySem.W.Frag}{tg:Expr}(it:Addr)(lo:Int)(n:Nat):Turn P w K tg (Itdn lo n) [it] it (fun i h=>IsRangeIter h it (lo+(i:Nat)*(-1)) ((n:Int)-(i:Nat)) (-1)) where
 mem:=by simp
 obj:=fun i h st b j=>by
  have e:b=it:=by simpa using j
  subst e
  show⟨_,st,fun v z=>by
   have z':Data.fields _=Data.cell v:=z
   cases z'⟩
 keep:=fun i h h' st k=>k it (by simp) _ st
 item:=by
  intro X U hw Y O i pins s σ H E I G st N
  subst U hw Y
  let⟨f0,f1,f2,f3,f4,Z⟩:=G it (by simp)
  have W:=Walks.range (prog:=X.prog) (w:=X.w) (I.ok.hd O) it lo (-1) n
  show W.item i s _ _ N st fun v h' tk hv st' kk=>?_
  let⟨t,rfl⟩:=hv
  have I1:Inv X pins σ H { s with heap:=h',toks:=tk }:=I.turned (fun b o j e=>kk b o (by simpa using j) e) f0 f1 f3 f4 Z
  show⟨_,rfl,xq2 (s:={ s with heap:=h',toks:=tk }) (n:="range_iterator") st' rfl rfl (by decide) ⟨.int (lo-i),H,I1,⟨t,?_⟩,⟨rfl,rfl⟩,st',fun b j=>(G b j).1⟩⟩
  rw[show lo+(i:Int)*(-1)=lo-i by lia]
 done:=by
  intro X U hw Y O i pins s σ H E I G st N
  subst U hw Y
  let⟨f0,f1,f2,f3,f4,Z⟩:=G it (by simp)
  show wpAny_pyNext_range_end (I.ok.hd O) st (by have:n<=i:=N;lia) fun h' eb=>⟨rfl,I.turned (t':=s.toks) (fun b o j e=>eb b o j e) f0 f1 f3 f4 Z⟩
 self:=fun _ _ _ _ _ st h=>wpAny_pyIter_rangeiter st h
section
variable {X:Cx}
noncomputable def K2 (n:Nat):List D:=(List.range n).map fun(i:Nat)=>D.int ((n:Int)-1-(i:Int))
theorem J4 (n:Nat):(K2 n).length=n:=by delta K2;simp
theorem za3 {K:W.Frag}{F:Hp}{n:Nat}:ItD K F (Itdn ((n:Int)-1) n) (K2 n) where
 go:=fun i F1 H1 a b hi=>by rw[J4]at hi;show hi
 yld:=fun i F1 H1 x H2 d a b e y=>by
  let⟨rfl,rfl⟩:=y
  delta K2 at e
  rw[getElem?_map]at e
  have hi:i<n:=by
   rcases Nat.lt_or_ge i n with h|h
   .exact h
   .rw[getElem?_eq_none (by simpa using h)]at e;ext e
  rw[getElem?_range hi]at e
  ext e
  show⟨F1,.refl b,.int _⟩
 stop:=fun F1 H1 a b=>by rw[J4];show Nat.le_refl n
noncomputable def rngD:List D->Option (List D)
 |[.int j]=>if okR j=true then some (K2 j.toNat)else none
 |_=>none
theorem zr9 {tg a:Expr}{m:ML}{p p2 pos i:Pos}(hg:Gl X "reversed")(hm:X.mg "reversed"=none)(a1:Gl X "range")(Z:X.mg "range"=none)(ha:PAs X [a] m)(he:starEach [a] X.env=(false,eval a X.env)::starEach [] X.env:=by rfl)
  (z:∀ pos,(backTo pos (starEach [] X.env)).any (·.1)=false:=by intro _;rfl)
  (hs:starEach (Expr.Call (.Name "range" p2) [a] [] i::[]) X.env=(false,eval (Expr.Call (.Name "range" p2) [a] [] i) X.env)::starEach [] X.env:=by rfl):
  PId X tg (.Call (.Name "reversed" p) [.Call (.Name "range" p2) [a] [] i] [] pos) (t9 rngD m):=by
 intro pins s σ H R I h
 let⟨F0,H0,F,ρ,its,rl,e,q⟩:=h
 let⟨ds,h1,h2⟩:=U3 e
 have A:=j4 (N3 yj3 a1 Z boot_range ha (by decide) (by decide) he (z _)) pa_nil hs pos pins s σ H (fun vs H1=>∃ p j F1 H2,vs=[.ref p]/\ds=[.int j]/\H2 p=none/\H1=upd H2 p (.rng 0 j)/\Ext F H F1 H2) I ⟨F0,H0,F,ρ,ds,rl,h1,fun vs F1 H1 O r1=>by
  delta rngD at h2
  split at h2
  .rename_i j
   cases r1 with
   |cons r rr=>
    ext rr;ext r
    show⟨j,rfl,fun p hp=>⟨p,j,F1,H1,rfl,rfl,hp,rfl,O⟩⟩
  .cases h2⟩
 show Call_ (U7 I hg hm boot_reversed (PyProof.Rows.callWith_type1 (thn A fun us s1 G=>?_) hs (z _)))
 let⟨vs,H1,Y,r1,q1⟩:=G
 let⟨l,j,F1,H2,ev,ed,hn,eH,O⟩:=q1
 subst ev ed eH
 let⟨u,rfl,ru⟩:=P6 r1
 ext ru
 have h2:(if okR j=true then some (K2 j.toNat)else none)=some its:=h2
 split at h2
 case isFalse=>ext h2
 rename_i U
 ext h2
 delta okR at U
 simp only[Bool.and_eq_true,decide_eq_true_eq]at U
 let⟨t,u,v,eo⟩:=Y.hok l _ y3
 show O4 (j:=j) eo U.1 U.2 ?_
 have N:IsRangeIter (s1.heap.push (zr0 ((j.toNat:Int)-1) j.toNat (-1))) s1.heap.objs.size ((j.toNat:Int)-1) j.toNat (-1):=Heap.get?_push_size _ rfl
 show wpAny_pyIter_rangeiter N ?_
 have x2:Ext F H F1 (upd H2 l (.rng 0 j)):=O.trans (Ext.own O.fh hn)
 show⟨s1.heap.objs.size,[s1.heap.objs.size],_,_,_,rfl,Y.kept (t':=s1.toks) fun b o e=>Heap.get?_push_of_some _ e,zs3 _ ((j.toNat:Int)-1) j.toNat,?_,fun b hb=>?_,q _ F1 _ x2 za3⟩
 .have e1:((j.toNat:Int)-1)+((0:Nat):Int)*(-1)=(j.toNat:Int)-1:=by simp
  have e2:((j.toNat:Nat):Int)-((0:Nat):Int)=j.toNat:=by simp
  show IsRangeIter _ _ (((j.toNat:Int)-1)+((0:Nat):Int)*(-1)) (((j.toNat:Nat):Int)-((0:Nat):Int)) (-1)
  rw[e1,e2]
  show N
 .have e:b=s1.heap.objs.size:=by simpa using hb
  subst e
  show Y.fpOk (Nat.le_refl _) (Y.hok.fresh (Nat.le_refl _))
end
end
section
section
variable {X:Cx}{a b:Expr}{pos:Pos}
end
end
section
section
variable {X:Cx}{e:Expr}{pos:Pos}{es:List Expr}{E:XK}{mf:MG}{st:Stmt}{na:MEm}
end
section
variable {X:Cx}{a b:Expr}{pos:Pos}
noncomputable def zk9 (n:Nat)(k:Int):Bool:=decide (-(2^62)<=k)&&decide (k<2^62)&&decide (n*k.toNat<=sizeLine)
@[irreducible] noncomputable def mrep (x:ML)(y:ME):ML:=fun ρ=>(x ρ).bind fun ds=>match y ρ with
 |some (.int k)=>if zk9 ds.length k=true then some (List.replicate k.toNat ds).flatten else none
 |_=>none
theorem yp3 {x:ML}{y:ME}{ρ:Ro}{i:List D}(h:mrep x y ρ=some i):∃ ds k,x ρ=some ds/\y ρ=some (.int k)/\zk9 ds.length k=true/\i=(List.replicate k.toNat ds).flatten:=by
 delta mrep at h
 cases h1:x ρ with
 |none=>rw[h1]at h;ext h
 |some ds=>
  rw[h1,Option.bind_some]at h
  split at h
  .rename_i k h2
   split at h
   .rename_i hk
    show⟨ds,k,rfl,h2,hk,(Option.some.inj h).symm⟩
   .cases h
  .cases h
theorem zi6 {x:ML}{y:ME}{ρ:Ro}{ds:List D}{k:Int}(h1:x ρ=some ds)(h2:y ρ=some (.int k))(i:zk9 ds.length k=true):mrep x y ρ=some (List.replicate k.toNat ds).flatten:=by
 delta mrep
 rw[h1,Option.bind_some,h2]
 simp only[i,if_true]
theorem zr1 {K:W.Frag}{F:Hp}{xs:List V}{ds:List D}(r:Reps K F xs ds):∀ k:Nat,Reps K F (List.replicate k xs).flatten (List.replicate k ds).flatten
 |0=>.nil
 |k+1=>by
  rw[replicate_succ,replicate_succ,flatten_cons,flatten_cons]
  show r.append (zr1 r k)
theorem P3 {x:ML}{y:ME}(ha:PF X a x)(O:PD X b y):PF X (.BinOp a .Mult b pos) (mrep x y):=(yf6 xh0 ha O).imp fun σ H Q j=>by
 let⟨F0,H0,F,ρ,g,N,e,q⟩:=j
 let⟨ds,k,h1,h2,z,rfl⟩:=yp3 e
 delta zk9 at z
 simp only[Bool.and_eq_true,decide_eq_true_eq]at z
 show⟨F0,H0,F,ρ,ds,N,h1,fun p xs F1 H1 I Y Z U r1=>⟨F0,H0,F1,ρ,.int k,N.go I,h2,fun v F2 H2 i r2=>?_⟩⟩
 ext r2
 show⟨p,k,xs,rfl,rfl,i.hh _ _ U,by lia,by lia,by rw[r1.length];show z.2,fun w hw=>?_⟩
 have G:=I.trans i
 show q w _ F2 _ (G.trans (Ext.own i.fh hw)) (G.hh.free hw) (i.fh.free hw) y3 (zr1 (r1.mono i.ff) k.toNat)
end
end
section
noncomputable def minN (mk:D->Option D)(ds:List D):Option D:=match ds with
 |[]=>none
 |d::ds=>(match mk d with |some kd=>minF mk ds d kd|none=>none)
section
variable {X:Cx}{pins:List (Addr×Obj)}{σ:St}
end
end
section
theorem zf6 (a v u:Value):argsOk "max" ⟨[a],[(Str.ofString "key",v),(Str.ofString "default",u)]⟩:=by unfold argsOk;kernel_rfl
noncomputable def J0:D->Option D
 | .lst ds=>some (.int ds.length)
 |_=>none
noncomputable def gtI:D->D->Option Bool
 | .int i,.int j=>some (decide (i>j))
 |_,_=>none
noncomputable def maxF:List D->D->D->Option D
 |[],b,_=>some b
 |d::ds,b,kb=>match J0 d with
  |some kd=>(match gtI kd kb with |some true=>maxF ds d kd|some false=>maxF ds b kb|none=>none)
  |none=>none
noncomputable def maxD (ds:List D)(d0:D):Option D:=match ds with
 |[]=>some d0
 |d::ds=>(match J0 d with |some kd=>maxF ds d kd|none=>none)
theorem xq1 {d e:D}{k:Bool}(h:gtI d e=some k):∃ i j,d= .int i/\e= .int j/\k=decide (i>j):=by
 cases d with
 |int i=>
  cases e with
  |int j=>ext h;show⟨i,j,rfl,rfl,rfl⟩
  |_=>ext h
 |_=>ext h
theorem xe0 {K:W.Frag}{F F':Hp}{A:Around}{s:Shared}{x y:V}{v u:Value}{d e:D}{k:Bool}(r1:Rep K F x d)(r2:Rep K F' y e)(G:RelV x v)(z:RelV y u)(h:gtI d e=some k)(prog:Program)(w:World)(E:Value->Shared->Prop)(Q:Value->Shared->Prop)(I:Q (.bool k) s):wpAny (model prog w) A (richCompare .Gt v u) Q E s:=by
 let⟨i,j,rfl,rfl,rfl⟩:=xq1 h
 obtain rfl:=r1.i'
 obtain rfl:=r2.i'
 let⟨t,rfl⟩:=G
 let⟨t',rfl⟩:=z
 show CmpOf.ints_gt (prog:=prog) (w:=w) (A:=A) (P:=fun n v=>∃ t,v= .int (if n=1 then i else j) t) (fun n=>if n=1 then i else j) (fun i v h=>h) 1 0 _ _ _ _ _ ⟨t,rfl⟩ ⟨t',rfl⟩ I
section
variable {X:Cx}{pins:List (Addr×Obj)}{σ:St}
theorem yn6 (pins:List (Addr×Obj))(σ:St)(H F:Hp)(s:Shared)(x:V)(u:Value)(d kd:D)(I:Inv X pins σ H s)(j:Same F H)(r:Rep X.K F x d)(G:RelV x u)(hm:J0 d=some kd):
  wpAny (model X.prog X.w) X.A.in1 (call (.builtin "len") [u]) (fun w s'=>∃ y F' H',Inv X pins σ H' s'/\RelV y w/\Ext F H F' H'/\Rep X.K F' y kd) (fun _ _=>False) s:=by
 ext r <;> first| (ext hm;done)|skip
 rename_i a xs ds z N
 ext hm
 ext G
 have hn:=zp8
 let⟨its,O,pl,U⟩:=I.list (j.seq z)
 have i:=O.length
 show Calls.call_len_list pl.isList (by simp only[size_toArray] <;> lia) ⟨.int ds.length,F,H,I.tok _,⟨s.toks+1,by rw[size_toArray,<-i,N.length]⟩,.refl j,.int _⟩
set_option maxHeartbeats 8000000 in
theorem yd6 (hc:X.calm=true)(hu:X.A.units+64<cLine){l I S:Addr}{xs:List V}{ds:List D}{kw:List (Str×Value)}{dm:D}(a2:I≠S)(ah:l≠I)(ag:l≠S):
  ∀(r j:Nat)(H F H0 F0:Hp)(s:Shared)(xb yb:V)(O U:Value)(db G:D)(c:Nat)(R:Result->Shared->Prop),
   ds.length-(j+1)=r->j+1<=ds.length->Inv X pins σ H s->Ext F0 H0 F H->SqL X.K H l xs->Reps X.K F xs ds->s.heap.IsListIter I l (j+1)->s.heap.get? S=some (seqObj "list" #[O,U] c)->FpOk X pins H I->FpOk X pins H S->
   RelV xb O->Rep X.K F xb db->RelV yb U->Rep X.K F yb G->maxF (ds.drop (j+1)) db G=some dm->
   (∀ x v F' H' s',Inv X pins σ H' s'->RelV x v->Ext F0 H0 F' H'->Rep X.K F' x dm->R (.ok (.ret v)) s')->
   codeAny (model X.prog X.w) X.A (.builtin "max.loop" ⟨[.ref I,.builtin "len",.ref S],kw⟩) R s:=by
 have N:(toString "max"++toString ".loop":String)="max.loop":=by decide
 intro r
 induction r with
 |zero=>
  intro j H F H0 F0 s xb yb O U db G c R hr hj I' ext sq rs a1 hS fI fS rb pb ry py hm hR
  have ac:j+1=ds.length:=by lia
  let⟨its,vr,pl,_⟩:=I'.list sq
  have zl:its.length=ds.length:=by rw[<-vr.length,rs.length]
  rw[ac,drop_length]at hm
  have hm:some db=some dm:=hm
  ext hm
  show codeAny_builtin PySem.F.entry_max_loop ?_
  rw[Around.under_plainId PySem.F.plain_max_loop _]
  show wpAny _ X.A.in1 (seqItems? (.ref S) >>= _) _ _ _
  show wpAny_bind (wpAny_seqItems hS rfl ?_)
  show wpAny _ X.A.in1 (tryCatch (pyNext (.ref I)) _ >>= _) _ _ _
  show wpAny_bind (wpAny_tryCatch (wpAny_pyNext_list_end (I'.ok.hd hc) a1 pl.isList (by simp;lia) fun h' a6=>?_))
  have af:h'.get? S=some (seqObj "list" #[O,U] c):=a6 S _ (Ne.symm a2) hS
  have s1:=Heap.SameBut.update h' S (Obj.mapSeq fun _=>(#[]:Array Value))
  show wpAny _ X.A.in1 (updateSeq S (fun _=>#[]) >>= _) _ _ _
  show wpAny_bind ?_
  show wpAny_updateSeq af rfl (wpAny_bind (wpAny_letGo (wpAny_pure ?_)))
  have I9:Inv X pins σ H { s with heap:=h'.update S (Obj.mapSeq fun _=>(#[]:Array Value)),toks:=s.toks }:=I'.turnedL (fp:=[I,S]) (t':=s.toks) (fun b o i e=>by
   simp only[mem_cons,not_mem_nil,or_false,not_or]at i
   show(s1.2 b i.2).trans (a6 b o i.1 e)) (fun b i=>by
   simp only[mem_cons,not_mem_nil,or_false]at i
   rcases i with rfl|rfl <;> assumption)
  show hR xb O F H _ I9 rb ext pb
 |succ r ih=>
  intro j H F H0 F0 s xb yb O U db G c R hr hj I' ext sq rs a1 hS fI fS rb pb ry py hm hR
  have Z:j+1<ds.length:=by lia
  let⟨its,vr,pl,_⟩:=I'.list sq
  have zl:its.length=ds.length:=by rw[<-vr.length,rs.length]
  obtain⟨d,hd⟩:∃ d,ds[j+1]? =some d:=⟨_,getElem?_eq_getElem Z⟩
  let⟨x,hx,px⟩:=rs.get hd
  let⟨v,hv,rx⟩:=vr.get hx
  rw[g7 hd]at hm
  unfold maxF at hm
  cases hkd:J0 d with
  |none=>rw[hkd]at hm;ext hm
  |some kd=>
   rw[hkd]at hm
   dsimp only at hm
   show codeAny_builtin PySem.F.entry_max_loop ?_
   rw[Around.under_plainId PySem.F.plain_max_loop _]
   show wpAny _ X.A.in1 (seqItems? (.ref S) >>= _) _ _ _
   show wpAny_bind (wpAny_seqItems hS rfl ?_)
   show wpAny _ X.A.in1 (tryCatch (pyNext (.ref I)) _ >>= _) _ _ _
   show wpAny_bind (wpAny_tryCatch (wpAny_pyNext_list_item a1 pl.isList (by simpa using hv) fun h1 a8 s1=>?_))
   have I1:Inv X pins σ H { s with heap:=h1,toks:=s.toks }:=I'.turnedL (fp:=[I]) (fun b o i e=>s1.extBut b o (by simpa using i) e) (fun b i=>by rw[List.mem_singleton.mp i];show fI)
   have ae:h1.get? S=some (seqObj "list" #[O,U] c):=s1.extBut _ _ (Ne.symm a2) hS
   let⟨oI,eI,cI,dI⟩:=id a8
   have Ip:=I1.pin2 fI fS eI ae (fun v z=>by rw[dI]at z;ext z) (fun v z=>by ext z)
   show wpAny _ X.A.in1 (tryCatch (holding [v] (call (.builtin "len") [v])) _ >>= _) _ _ _
   show wpAny_bind (wpAny_tryCatch (wpAny_holding (wpAny_mono (yn6 (pins++[(I,oI),(S,seqObj "list" #[O,U] c)]) σ H F _ x v d kd Ip ext.fh px rx hkd) (fun w s2 hw=>?_) fun _ _ z=>z.elim)))
   let⟨y,F2,H2,I2,a4,Y,a5⟩:=hw
   have pI:=I2.pin (I,oI) (by simp)
   have pS:=I2.pin (S,seqObj "list" #[O,U] c) (by simp)
   have ab:Inv X pins σ H2 s2:=I2.unpinned
   have aa:FpOk X pins H2 I:=fI.now pI.2.1
   have a3:FpOk X pins H2 S:=fS.now pS.2.1
   have a7:s2.heap.IsListIter I l (j+1+1):=⟨oI,pI.1,cI,dI⟩
   cases hlt8:gtI kd G with
   |none=>rw[hlt8]at hm;ext hm
   |some bt=>
    rw[hlt8]at hm
    have a9:=xe0 (A:=X.A.in1) (s:=s2) a5 py a4 ry hlt8
    show wpAny _ X.A.in1 (tryCatch (holding [v,w] (richCompare .Gt w U >>= _)) _ >>= _) _ _ _
    show wpAny_bind (wpAny_tryCatch (wpAny_holding (wpAny_bind (a9 X.prog X.w _ _ ?_))))
    show wpAny_bind (wpAny_holding (wpAny_truthy_bool ?_))
    show wpAny_bind (wpAny_letGo (wpAny_pure ?_))
    cases bt with
    |true=>
     have s3:=Heap.SameBut.update s2.heap S (Obj.mapSeq fun _=>#[v,w])
     obtain⟨c2,ad⟩:∃ c2,(s2.heap.update S (Obj.mapSeq fun _=>#[v,w])).get? S=some (seqObj "list" #[v,w] c2):=⟨_,get?_update_seq pS.1 fun _=>#[v,w]⟩
     simp only[if_true]
     show wpAny_bind ?_
     show wpAny_updateSeq pS.1 rfl (wpAny_bind (wpAny_letGo ?_))
     rw[N]
     have I3:Inv X pins σ H2 { s2 with heap:=s2.heap.update S (Obj.mapSeq fun _=>#[v,w]),toks:=s2.toks }:=ab.turnedL (fp:=[S]) (fun b o i e=>(s3.2 b (by simpa using i)).trans e) (fun b i=>by rw[List.mem_singleton.mp i];show a3)
     show wpAny_pure ⟨plainId_quiet PySem.F.plain_max_loop _,ih (j+1) H2 F2 H0 F0 _ x y v w d kd c2 R (by lia) Z I3 (ext.trans Y) (Y.hh.seq sq) (rs.mono Y.ff) ⟨oI,(s3.2 I a2).trans pI.1,cI,dI⟩ ad aa a3 rx (px.mono Y.ff) a4 a5 hm hR⟩
    |false=>
     simp only[Bool.false_eq_true,if_false]
     show wpAny_bind (wpAny_letGo ?_)
     rw[N]
     show wpAny_pure ⟨plainId_quiet PySem.F.plain_max_loop _,ih (j+1) H2 F2 H0 F0 _ xb yb O U db G c R (by lia) Z ab (ext.trans Y) (Y.hh.seq sq) (rs.mono Y.ff) a7 pS.1 aa a3 rb (pb.mono Y.ff) ry (py.mono Y.ff) hm hR⟩
set_option maxHeartbeats 8000000 in
theorem xr2 (hc:X.calm=true)(hu:X.A.units+64<cLine){l:Addr}{xs:List V}{ds:List D}{dm d0:D}{H F:Hp}{s:Shared}{x0:V}{U:Value}{E:Value->Shared->Prop}{Q:Value->Shared->Prop}
  (I:Inv X pins σ H s) (sf:Same F H) (sq:SqL X.K H l xs) (rs:Reps X.K F xs ds) (r0:RelV x0 U) (p0:Rep X.K F x0 d0) (hm:maxD ds d0=some dm)
  (hQ:∀ x v F' H' s',Inv X pins σ H' s'->RelV x v->Ext F H F' H'->Rep X.K F' x dm->Q v s'):
  wpAny (model X.prog X.w) X.A (call (.builtin "max") [.ref l] [(Str.ofString "key",.builtin "len"),(Str.ofString "default",U)]) Q E s:=by
 have G:(toString "max"++toString ".loop":String)="max.loop":=by decide
 let⟨its,vr,pl,_⟩:=I.list sq
 have a2:=pl.isList
 let⟨ol,a9,_⟩:=id a2
 have a3:l<s.heap.objs.size:=Heap.lt_size a9
 show kmk_tree PySem.F.kind_max PySem.F.plain_max PySem.F.entry_max (zf6 _ _ _) ?_
 show wpAny _ X.A.in1 (Builtin.Builtins.bindParams "max" ["key","default"] 0 ⟨[],[(Str.ofString "key",.builtin "len"),(Str.ofString "default",U)]⟩ >>= _) _ _ s
 show wpAny_bind (wpAny_of_eq (show Builtin.Builtins.bindParams "max" ["key","default"] 0 ⟨[],[(Str.ofString "key",.builtin "len"),(Str.ofString "default",U)]⟩=pure [some (.builtin "len"),some U]from rfl) ?_)
 show wpAny_bind (wpAny_pure ?_)
 show wpAny_bind (wpAny_pyIter_list a2 ?_)
 show wpAny_bind (wpAny_newList ?_ (Nat.zero_le _))
 rw[G]
 show wpAny_pure ⟨plainId_quiet PySem.F.plain_max_loop _,?_⟩
 generalize N:({ cls:=.type "list_iterator",data:=.fields #[.ref l,.int 0 0] }:Obj)=oI0
 have hS:(s.heap.push oI0).objs.size=s.heap.objs.size+1:=size_push' ..
 have ab:l≠s.heap.objs.size:=Nat.ne_of_lt a3
 have aa:l≠(s.heap.push oI0).objs.size:=by rw[hS];show Nat.ne_of_lt (Nat.lt_succ_of_lt a3)
 have O:s.heap.objs.size≠(s.heap.push oI0).objs.size:=by rw[hS];show Nat.ne_of_lt (Nat.lt_succ_self _)
 have gI:((s.heap.push oI0).push (seqObj "list" #[] 0)).get? s.heap.objs.size=some oI0:=Heap.get?_push_of_some _ (Heap.get?_push_size _ (by rw[<-N];rfl))
 have gS:((s.heap.push oI0).push (seqObj "list" #[] 0)).get? (s.heap.push oI0).objs.size=some (seqObj "list" #[] 0):=Heap.get?_push_size _ rfl
 have fI:FpOk X pins H s.heap.objs.size:=I.fpOk (Nat.le_refl _) (I.hok.fresh (Nat.le_refl _))
 have fS:FpOk X pins H (s.heap.push oI0).objs.size:=I.fpOk (by rw[hS];show Nat.le_succ _) (I.hok.fresh (by rw[hS];show Nat.le_succ _))
 have I0:Inv X pins σ H { s with heap:=(s.heap.push oI0).push (seqObj "list" #[] 0),toks:=s.toks }:=I.turnedL (fp:=[]) (fun b o _ e=>Heap.get?_push_of_some _ (Heap.get?_push_of_some _ e)) (fun b j=>by ext j)
 generalize (s.heap.push oI0).objs.size=S at*
 generalize hI:s.heap.objs.size=J at*
 generalize (s.heap.push oI0).push (seqObj "list" #[] 0)=h0 at*
 have a5:h0.IsListIter J l 0:=⟨_,gI,by rw[<-N],by rw[<-N];rfl⟩
 have zl:its.length=ds.length:=by rw[<-vr.length,rs.length]
 let⟨its',Z,a1,_⟩:=I0.list sq
 have Y:its'.length=ds.length:=by rw[<-Z.length,rs.length]
 show codeAny_builtin PySem.F.entry_max_loop ?_
 rw[Around.under_plainId PySem.F.plain_max_loop _]
 show wpAny _ X.A.in1 (seqItems? (.ref S) >>= _) _ _ _
 show wpAny_bind (wpAny_seqItems gS rfl ?_)
 show wpAny _ X.A.in1 (tryCatch (pyNext (.ref J)) _ >>= _) _ _ _
 cases ds with
 |nil=>
  have hm:some d0=some dm:=hm
  ext hm
  show wpAny_bind (wpAny_tryCatch (wpAny_pyNext_list_end (I.ok.hd hc) a5 a1.isList (by simp at Y ⊢;simp[Y]) fun h' ac=>?_))
  show wpAny_bind (wpAny_rule (wpAny_pure ?_))
  have I9:=I0.turnedL (h':=h') (fp:=[J]) (t':=s.toks) (fun b o j e=>ac b o (by simpa using j) e) (fun b j=>by rw[List.mem_singleton.mp j];show fI)
  show hQ x0 U F H _ I9 r0 (Ext.refl sf) p0
 |cons d ds=>
  let⟨x,hx,px⟩:=rs.get (i:=0) (d:=d) rfl
  let⟨v,hv,rx⟩:=Z.get hx
  delta maxD at hm
  dsimp only at hm
  cases hkd:J0 d with
  |none=>rw[hkd]at hm;ext hm
  |some kd=>
   rw[hkd]at hm
   dsimp only at hm
   show wpAny_bind (wpAny_tryCatch (wpAny_pyNext_list_item a5 a1.isList (by simpa using hv) fun h1 a4 s1=>?_))
   have I1:=I0.turnedL (h':=h1) (t':=s.toks) (fp:=[J]) (fun b o j e=>s1.extBut b o (by simpa using j) e) (fun b j=>by rw[List.mem_singleton.mp j];show fI)
   have ae:h1.get? S=some (seqObj "list" #[] 0):=s1.extBut _ _ (Ne.symm O) gS
   let⟨oI,eI,cI,dI⟩:=id a4
   have Ip:=I1.pin2 fI fS eI ae (fun v z=>by rw[dI]at z;ext z) (fun v z=>by ext z)
   show wpAny _ X.A.in1 (tryCatch (holding [v] (call (.builtin "len") [v])) _ >>= _) _ _ _
   show wpAny_bind (wpAny_tryCatch (wpAny_holding (wpAny_mono (yn6 (pins++[(J,oI),(S,seqObj "list" #[] 0)]) σ H F _ x v d kd Ip sf px rx hkd) (fun w s2 hw=>?_) fun _ _ z=>z.elim)))
   let⟨y,F2,H2,I2,a7,x2,a8⟩:=hw
   have pI:=I2.pin (J,oI) (by simp)
   have pS:=I2.pin (S,seqObj "list" #[] 0) (by simp)
   have ag:Inv X pins σ H2 s2:=I2.unpinned
   have af:FpOk X pins H2 J:=fI.now pI.2.1
   have a6:FpOk X pins H2 S:=fS.now pS.2.1
   have s3:=Heap.SameBut.update s2.heap S (Obj.mapSeq fun _=>#[v,w])
   obtain⟨c2,ad⟩:∃ c2,(s2.heap.update S (Obj.mapSeq fun _=>#[v,w])).get? S=some (seqObj "list" #[v,w] c2):=⟨_,get?_update_seq pS.1 fun _=>#[v,w]⟩
   show wpAny _ X.A.in1 (updateSeq S (fun _=>#[v,w]) >>= _) _ _ _
   show wpAny_bind (wpAny_updateSeq pS.1 rfl ?_)
   rw[G]
   have I3:Inv X pins σ H2 { s2 with heap:=s2.heap.update S (Obj.mapSeq fun _=>#[v,w]),toks:=s2.toks }:=ag.turnedL (fp:=[S]) (fun b o j e=>(s3.2 b (by simpa using j)).trans e) (fun b j=>by rw[List.mem_singleton.mp j];show a6)
   show wpAny_pure ⟨plainId_quiet PySem.F.plain_max_loop _,yd6 hc hu (ds:=d::ds) (dm:=dm) O ab aa _ 0 H2 F2 H F _ x y v w d kd c2 _ rfl (by simp) I3 x2 (x2.hh.seq sq) (rs.mono x2.ff) ⟨oI,(s3.2 J O).trans pI.1,cI,dI⟩ ad af a6 rx (px.mono x2.ff) a7 a8 hm fun x v F' H' s' a b c d=>hQ x v F' H' s' a b c d⟩
@[irreducible] noncomputable def L7 (m:ML)(md:ME):ME:=fun ρ=>(m ρ).bind fun ds=>(md ρ).bind fun d0=>maxD ds d0
theorem zq8 {m:ML}{i:ME}{ρ:Ro}{g:D}(h:L7 m i ρ=some g):∃ ds d0,m ρ=some ds/\i ρ=some d0/\maxD ds d0=some g:=by
 delta L7 at h
 cases h1:m ρ with
 |none=>rw[h1]at h;ext h
 |some d=>
  cases h2:i ρ with
  |none=>rw[h1,h2]at h;ext h
  |some e=>rw[h1,h2]at h;show⟨d,e,rfl,rfl,h⟩
theorem yx6 {m:ML}{i:ME}{ρ:Ro}{ds:List D}{d0:D}(h1:m ρ=some ds)(h2:i ρ=some d0):L7 m i ρ=maxD ds d0:=by
 delta L7
 rw[h1,h2];rfl
theorem ys9 {p pf kp j pos:Pos}{e Z:Expr}{m:ML}{md:ME}(hc:X.calm=true)(hu:X.A.units+64<cLine)(hg:Gl X "max")(hm:X.mg "max"=none)(U:Gl X "len")(O:X.mg "len"=none)(ha:PB X e m)(hd:PD X Z md)
  (hs:starEach (e::[]) X.env=(false,eval e X.env)::starEach [] X.env:=by rfl):
  PD X (.Call (.Name "max" p) [e] [⟨some "key",.Name "len" pf,kp⟩,⟨some "default",Z,j⟩] pos) (L7 m md):=by
 intro pins s σ H Q I h
 let⟨F0,H0,F,ρ,g,rl,em,q0⟩:=h
 let⟨ds,d0,h1,h2,h3⟩:=zq8 em
 show wpAny_Call_Name_kw (U7 I hg hm PyProof.Rows.boot_max ?_ (by decide) (by decide))
 have A:=j4 ha pa_nil hs pos pins s σ H (fun vs H1=>∃ p xs F1,vs=[.ref p]/\Ext F H F1 H1/\SqL X.K H1 p xs/\Reps X.K F1 xs ds) I ⟨F0,H0,F,ρ,ds,rl,h1,fun p xs F1 H1 G s1 r1=>⟨p,xs,F1,rfl,G,s1,r1⟩⟩
 show callWith_kw (thn A fun us s1 i=>?_) (by rw[hs];rfl) (by rw[hs];rfl)
 let⟨vs,H1,I1,r1,p,xs,F1,Y,G,sq,rs⟩:=i
 subst Y
 let⟨u,rfl,ru⟩:=P6 r1
 ext ru
 show wpAny _ _ (evalAll ((do let v ← eval (.Name "len" pf) X.env;standAt pos;pure v)::(backToKw pos (keywordEach [⟨some "default",Z,j⟩] X.env)).map (·.2))) _ _ s1
 show wpAny_evalAll_cons (wpAny_bind (U7 I1 U O boot_len (wpAny_bind (wpAny_standAt (wpAny_pure ?_))) (by decide) (by decide)))
 have B:=C0 (nm:=some "default") (kpos:=j) hd zc0 pos pins s1 σ H1 (fun vs H2=>∃ y F2,vs=[y]/\Ext F1 H1 F2 H2/\Rep X.K F2 y d0) I1 ⟨F0,H0,F1,ρ,d0,rl.go G,h2,fun y F2 H2 z r2=>⟨y,F2,rfl,z,r2⟩⟩
 show thn B fun us s2 i=>?_
 let⟨vs,H2,I2,r2,y,F2,Y,z,p0⟩:=i
 subst Y
 let⟨u2,rfl,N⟩:=P6 r2
 show xr2 hc hu I2 z.fh (z.hh.seq sq) (rs.mono z.ff) N p0 h3 fun x v F' H' s' I' rx x3 px=>⟨x,H',I',rx,q0 x F' H' ((G.trans z).trans x3) px⟩
end
end
section
section
variable {X:Cx}{pins:List (Addr×Obj)}{σ:St}
end
section
variable {X:Cx}
end
end
section
theorem yw7 (a u:Value):argsOk "max" ⟨[a],[(Str.ofString "default",u)]⟩:=by unfold argsOk;kernel_rfl
noncomputable def maxP:List D->D->Option D
 |[],b=>some b
 |d::ds,b=>(match gtI d b with |some true=>maxP ds d|some false=>maxP ds b|none=>none)
noncomputable def maxE (ds:List D)(d0:D):Option D:=match ds with
 |[]=>some d0
 |d::ds=>maxP ds d
section
variable {X:Cx}{pins:List (Addr×Obj)}{σ:St}
set_option maxHeartbeats 8000000 in
theorem yo4 (hc:X.calm=true)(hu:X.A.units+64<cLine){l I S:Addr}{xs:List V}{ds:List D}{kw:List (Str×Value)}{dm:D}(Z:I≠S)(a7:l≠I)(a6:l≠S):
  ∀(r j:Nat)(H F H0 F0:Hp)(s:Shared)(xb:V)(z:Value)(db:D)(c:Nat)(R:Result->Shared->Prop),
   ds.length-(j+1)=r->j+1<=ds.length->Inv X pins σ H s->Ext F0 H0 F H->SqL X.K H l xs->Reps X.K F xs ds->s.heap.IsListIter I l (j+1)->s.heap.get? S=some (seqObj "list" #[z,z] c)->FpOk X pins H I->FpOk X pins H S->
   RelV xb z->Rep X.K F xb db->maxP (ds.drop (j+1)) db=some dm->
   (∀ x v F' H' s',Inv X pins σ H' s'->RelV x v->Ext F0 H0 F' H'->Rep X.K F' x dm->R (.ok (.ret v)) s')->
   codeAny (model X.prog X.w) X.A (.builtin "max.loop" ⟨[.ref I,.none,.ref S],kw⟩) R s:=by
 have G:(toString "max"++toString ".loop":String)="max.loop":=by decide
 intro r
 induction r with
 |zero=>
  intro j H F H0 F0 s xb z db c R hr hj I' ext sq rs U hS fI fS rb pb hm hR
  have a3:j+1=ds.length:=by lia
  let⟨its,vr,pl,_⟩:=I'.list sq
  have zl:its.length=ds.length:=by rw[<-vr.length,rs.length]
  rw[a3,drop_length]at hm
  have hm:some db=some dm:=hm
  ext hm
  show codeAny_builtin PySem.F.entry_max_loop ?_
  rw[Around.under_plainId PySem.F.plain_max_loop _]
  show wpAny _ X.A.in1 (seqItems? (.ref S) >>= _) _ _ _
  show wpAny_bind (wpAny_seqItems hS rfl ?_)
  show wpAny _ X.A.in1 (tryCatch (pyNext (.ref I)) _ >>= _) _ _ _
  show wpAny_bind (wpAny_tryCatch (wpAny_pyNext_list_end (I'.ok.hd hc) U pl.isList (by simp;lia) fun h' a1=>?_))
  have a5:h'.get? S=some (seqObj "list" #[z,z] c):=a1 S _ (Ne.symm Z) hS
  have s1:=Heap.SameBut.update h' S (Obj.mapSeq fun _=>(#[]:Array Value))
  show wpAny _ X.A.in1 (updateSeq S (fun _=>#[]) >>= _) _ _ _
  show wpAny_bind ?_
  show wpAny_updateSeq a5 rfl (wpAny_bind (wpAny_letGo (wpAny_pure ?_)))
  have I9:Inv X pins σ H { s with heap:=h'.update S (Obj.mapSeq fun _=>(#[]:Array Value)),toks:=s.toks }:=I'.turnedL (fp:=[I,S]) (t':=s.toks) (fun b o i e=>by
   simp only[mem_cons,not_mem_nil,or_false,not_or]at i
   show(s1.2 b i.2).trans (a1 b o i.1 e)) (fun b i=>by
   simp only[mem_cons,not_mem_nil,or_false]at i
   rcases i with rfl|rfl <;> assumption)
  show hR xb z F H _ I9 rb ext pb
 |succ r ih=>
  intro j H F H0 F0 s xb z db c R hr hj I' ext sq rs U hS fI fS rb pb hm hR
  have O:j+1<ds.length:=by lia
  let⟨its,vr,pl,_⟩:=I'.list sq
  have zl:its.length=ds.length:=by rw[<-vr.length,rs.length]
  obtain⟨d,hd⟩:∃ d,ds[j+1]? =some d:=⟨_,getElem?_eq_getElem O⟩
  let⟨x,hx,px⟩:=rs.get hd
  let⟨v,hv,rx⟩:=vr.get hx
  rw[g7 hd]at hm
  unfold maxP at hm
  show codeAny_builtin PySem.F.entry_max_loop ?_
  rw[Around.under_plainId PySem.F.plain_max_loop _]
  show wpAny _ X.A.in1 (seqItems? (.ref S) >>= _) _ _ _
  show wpAny_bind (wpAny_seqItems hS rfl ?_)
  show wpAny _ X.A.in1 (tryCatch (pyNext (.ref I)) _ >>= _) _ _ _
  show wpAny_bind (wpAny_tryCatch (wpAny_pyNext_list_item U pl.isList (by simpa using hv) fun h1 N s1=>?_))
  have I1:Inv X pins σ H { s with heap:=h1,toks:=s.toks }:=I'.turnedL (fp:=[I]) (fun b o i e=>s1.extBut b o (by simpa using i) e) (fun b i=>by rw[List.mem_singleton.mp i];show fI)
  have Y:h1.get? S=some (seqObj "list" #[z,z] c):=s1.extBut _ _ (Ne.symm Z) hS
  cases hlt8:gtI d db with
  |none=>rw[hlt8]at hm;ext hm
  |some bt=>
   rw[hlt8]at hm
   have a2:=xe0 (A:=X.A.in1) (s:={ s with heap:=h1,toks:=s.toks }) px pb rx rb hlt8
   show wpAny_bind (wpAny_pure ?_)
   show wpAny _ X.A.in1 (tryCatch (holding [v,v] (richCompare .Gt v z >>= _)) _ >>= _) _ _ _
   show wpAny_bind (wpAny_tryCatch (wpAny_holding (wpAny_bind (a2 X.prog X.w _ _ ?_))))
   show wpAny_bind (wpAny_holding (wpAny_truthy_bool ?_))
   show wpAny_bind (wpAny_letGo (wpAny_pure ?_))
   cases bt with
   |true=>
    have s3:=Heap.SameBut.update h1 S (Obj.mapSeq fun _=>#[v,v])
    obtain⟨c2,a4⟩:∃ c2,(h1.update S (Obj.mapSeq fun _=>#[v,v])).get? S=some (seqObj "list" #[v,v] c2):=⟨_,get?_update_seq Y fun _=>#[v,v]⟩
    simp only[if_true]
    show wpAny_bind ?_
    show wpAny_updateSeq Y rfl (wpAny_bind (wpAny_letGo ?_))
    rw[G]
    have I3:=I1.turnedL (h':=h1.update S (Obj.mapSeq fun _=>#[v,v])) (t':=s.toks) (fp:=[S]) (fun b o i e=>(s3.2 b (by simpa using i)).trans e) (fun b i=>by rw[List.mem_singleton.mp i];show fS)
    show wpAny_pure ⟨plainId_quiet PySem.F.plain_max_loop _,ih (j+1) H F H0 F0 _ x v d c2 R (by lia) O I3 ext sq rs (N.at fun o e=>(s3.2 I Z).trans e) a4 fI fS rx px hm hR⟩
   |false=>
    simp only[Bool.false_eq_true,if_false]
    show wpAny_bind (wpAny_letGo ?_)
    rw[G]
    show wpAny_pure ⟨plainId_quiet PySem.F.plain_max_loop _,ih (j+1) H F H0 F0 _ xb z db c R (by lia) O I1 ext sq rs N Y fI fS rb pb hm hR⟩
set_option maxHeartbeats 8000000 in
theorem yd5 (hc:X.calm=true)(hu:X.A.units+64<cLine){l:Addr}{xs:List V}{ds:List D}{dm d0:D}{H F:Hp}{s:Shared}{x0:V}{O:Value}{E:Value->Shared->Prop}{Q:Value->Shared->Prop}
  (I:Inv X pins σ H s) (sf:Same F H) (sq:SqL X.K H l xs) (rs:Reps X.K F xs ds) (r0:RelV x0 O) (p0:Rep X.K F x0 d0) (hm:maxE ds d0=some dm)
  (hQ:∀ x v F' H' s',Inv X pins σ H' s'->RelV x v->Ext F H F' H'->Rep X.K F' x dm->Q v s'):
  wpAny (model X.prog X.w) X.A (call (.builtin "max") [.ref l] [(Str.ofString "default",O)]) Q E s:=by
 have z:(toString "max"++toString ".loop":String)="max.loop":=by decide
 let⟨its,vr,pl,_⟩:=I.list sq
 have a1:=pl.isList
 let⟨ol,a6,_⟩:=id a1
 have a2:l<s.heap.objs.size:=Heap.lt_size a6
 show kmk_tree PySem.F.kind_max PySem.F.plain_max PySem.F.entry_max (yw7 _ _) ?_
 show wpAny _ X.A.in1 (Builtin.Builtins.bindParams "max" ["key","default"] 0 ⟨[],[(Str.ofString "default",O)]⟩ >>= _) _ _ s
 show wpAny_bind (wpAny_of_eq (show Builtin.Builtins.bindParams "max" ["key","default"] 0 ⟨[],[(Str.ofString "default",O)]⟩=pure [none,some O]from rfl) ?_)
 show wpAny_bind (wpAny_pure ?_)
 show wpAny_bind (wpAny_pyIter_list a1 ?_)
 show wpAny_bind (wpAny_newList ?_ (Nat.zero_le _))
 rw[z]
 show wpAny_pure ⟨plainId_quiet PySem.F.plain_max_loop _,?_⟩
 generalize G:({ cls:=.type "list_iterator",data:=.fields #[.ref l,.int 0 0] }:Obj)=oI0
 have hS:(s.heap.push oI0).objs.size=s.heap.objs.size+1:=size_push' ..
 have a8:l≠s.heap.objs.size:=Nat.ne_of_lt a2
 have a7:l≠(s.heap.push oI0).objs.size:=by rw[hS];show Nat.ne_of_lt (Nat.lt_succ_of_lt a2)
 have N:s.heap.objs.size≠(s.heap.push oI0).objs.size:=by rw[hS];show Nat.ne_of_lt (Nat.lt_succ_self _)
 have gI:((s.heap.push oI0).push (seqObj "list" #[] 0)).get? s.heap.objs.size=some oI0:=Heap.get?_push_of_some _ (Heap.get?_push_size _ (by rw[<-G];rfl))
 have gS:((s.heap.push oI0).push (seqObj "list" #[] 0)).get? (s.heap.push oI0).objs.size=some (seqObj "list" #[] 0):=Heap.get?_push_size _ rfl
 have fI:FpOk X pins H s.heap.objs.size:=I.fpOk (Nat.le_refl _) (I.hok.fresh (Nat.le_refl _))
 have fS:FpOk X pins H (s.heap.push oI0).objs.size:=I.fpOk (by rw[hS];show Nat.le_succ _) (I.hok.fresh (by rw[hS];show Nat.le_succ _))
 have I0:Inv X pins σ H { s with heap:=(s.heap.push oI0).push (seqObj "list" #[] 0),toks:=s.toks }:=I.turnedL (fp:=[]) (fun b o _ e=>Heap.get?_push_of_some _ (Heap.get?_push_of_some _ e)) (fun b j=>by ext j)
 generalize (s.heap.push oI0).objs.size=S at*
 generalize hI:s.heap.objs.size=J at*
 generalize (s.heap.push oI0).push (seqObj "list" #[] 0)=h0 at*
 have a4:h0.IsListIter J l 0:=⟨_,gI,by rw[<-G],by rw[<-G];rfl⟩
 have zl:its.length=ds.length:=by rw[<-vr.length,rs.length]
 let⟨its',Y,Z,_⟩:=I0.list sq
 have U:its'.length=ds.length:=by rw[<-Y.length,rs.length]
 show codeAny_builtin PySem.F.entry_max_loop ?_
 rw[Around.under_plainId PySem.F.plain_max_loop _]
 show wpAny _ X.A.in1 (seqItems? (.ref S) >>= _) _ _ _
 show wpAny_bind (wpAny_seqItems gS rfl ?_)
 show wpAny _ X.A.in1 (tryCatch (pyNext (.ref J)) _ >>= _) _ _ _
 cases ds with
 |nil=>
  have hm:some d0=some dm:=hm
  ext hm
  show wpAny_bind (wpAny_tryCatch (wpAny_pyNext_list_end (I.ok.hd hc) a4 Z.isList (by simp at U ⊢;simp[U]) fun h' a9=>?_))
  show wpAny_bind (wpAny_rule (wpAny_pure ?_))
  have I9:=I0.turnedL (h':=h') (fp:=[J]) (t':=s.toks) (fun b o j e=>a9 b o (by simpa using j) e) (fun b j=>by rw[List.mem_singleton.mp j];show fI)
  show hQ x0 O F H _ I9 r0 (Ext.refl sf) p0
 |cons d ds=>
  let⟨x,hx,px⟩:=rs.get (i:=0) (d:=d) rfl
  let⟨v,hv,rx⟩:=Y.get hx
  show wpAny_bind (wpAny_tryCatch (wpAny_pyNext_list_item a4 Z.isList (by simpa using hv) fun h1 a3 s1=>?_))
  have I1:=I0.turnedL (h':=h1) (t':=s.toks) (fp:=[J]) (fun b o j e=>s1.extBut b o (by simpa using j) e) (fun b j=>by rw[List.mem_singleton.mp j];show fI)
  have a5:h1.get? S=some (seqObj "list" #[] 0):=s1.extBut _ _ (Ne.symm N) gS
  show wpAny_bind (wpAny_pure ?_)
  have s3:=Heap.SameBut.update h1 S (Obj.mapSeq fun _=>#[v,v])
  obtain⟨c2,aa⟩:∃ c2,(h1.update S (Obj.mapSeq fun _=>#[v,v])).get? S=some (seqObj "list" #[v,v] c2):=⟨_,get?_update_seq a5 fun _=>#[v,v]⟩
  show wpAny _ X.A.in1 (updateSeq S (fun _=>#[v,v]) >>= _) _ _ _
  show wpAny_bind (wpAny_updateSeq a5 rfl ?_)
  rw[z]
  have I3:=I1.turnedL (h':=h1.update S (Obj.mapSeq fun _=>#[v,v])) (t':=s.toks) (fp:=[S]) (fun b o j e=>(s3.2 b (by simpa using j)).trans e) (fun b j=>by rw[List.mem_singleton.mp j];show fS)
  show wpAny_pure ⟨plainId_quiet PySem.F.plain_max_loop _,yo4 hc hu (ds:=d::ds) (dm:=dm) N a8 a7 _ 0 H F H F _ x v d c2 _ rfl (by simp) I3 (.refl sf) sq rs (a3.at fun o e=>(s3.2 J N).trans e) aa fI fS rx px hm fun x v F' H' s' a b c d=>hQ x v F' H' s' a b c d⟩
@[irreducible] noncomputable def zp0 (m:ML)(md:ME):ME:=fun ρ=>(m ρ).bind fun ds=>(md ρ).bind fun d0=>maxE ds d0
theorem yx7 {m:ML}{i:ME}{ρ:Ro}{g:D}(h:zp0 m i ρ=some g):∃ ds d0,m ρ=some ds/\i ρ=some d0/\maxE ds d0=some g:=by
 delta zp0 at h
 cases h1:m ρ with
 |none=>rw[h1]at h;ext h
 |some d=>
  cases h2:i ρ with
  |none=>rw[h1,h2]at h;ext h
  |some e=>rw[h1,h2]at h;show⟨d,e,rfl,rfl,h⟩
theorem zb2 {m:ML}{i:ME}{ρ:Ro}{ds:List D}{d0:D}(h1:m ρ=some ds)(h2:i ρ=some d0):zp0 m i ρ=maxE ds d0:=by
 delta zp0
 rw[h1,h2];rfl
theorem yr1 {p z pos:Pos}{e Z:Expr}{m:ML}{Y:ME}(hc:X.calm=true)(hu:X.A.units+64<cLine)(hg:Gl X "max")(hm:X.mg "max"=none)(ha:PB X e m)(hd:PD X Z Y)
  (hs:starEach (e::[]) X.env=(false,eval e X.env)::starEach [] X.env:=by rfl):
  PD X (.Call (.Name "max" p) [e] [⟨some "default",Z,z⟩] pos) (zp0 m Y):=by
 intro pins s σ H Q I h
 let⟨F0,H0,F,ρ,g,U,em,q0⟩:=h
 let⟨ds,d0,h1,h2,h3⟩:=yx7 em
 show wpAny_Call_Name_kw (U7 I hg hm PyProof.Rows.boot_max ?_ (by decide) (by decide))
 have A:=j4 ha pa_nil hs pos pins s σ H (fun vs H1=>∃ p xs F1,vs=[.ref p]/\Ext F H F1 H1/\SqL X.K H1 p xs/\Reps X.K F1 xs ds) I ⟨F0,H0,F,ρ,ds,U,h1,fun p xs F1 H1 G s1 r1=>⟨p,xs,F1,rfl,G,s1,r1⟩⟩
 show callWith_kw (thn A fun us s1 i=>?_) (by rw[hs];rfl) (by rw[hs];rfl)
 let⟨vs,H1,I1,r1,p,xs,F1,O,G,sq,rs⟩:=i
 subst O
 let⟨u,rfl,ru⟩:=P6 r1
 ext ru
 have B:=C0 (nm:=some "default") (kpos:=z) hd zc0 pos pins s1 σ H1 (fun vs H2=>∃ y F2,vs=[y]/\Ext F1 H1 F2 H2/\Rep X.K F2 y d0) I1 ⟨F0,H0,F1,ρ,d0,U.go G,h2,fun y F2 H2 j r2=>⟨y,F2,rfl,j,r2⟩⟩
 show thn B fun us s2 i=>?_
 let⟨vs,H2,I2,r2,y,F2,O,j,p0⟩:=i
 subst O
 let⟨u2,rfl,N⟩:=P6 r2
 show yd5 hc hu I2 j.fh (j.hh.seq sq) (rs.mono j.ff) N p0 h3 fun x v F' H' s' I' rx x3 px=>⟨x,H',I',rx,q0 x F' H' ((G.trans j).trans x3) px⟩
end
end
end L2
namespace L2
open List
open PySem PySem.Spec PyProof.Rows PySem.Builtin PySem.Builtin.Str
section
section
variable {X:Cx}{a b c e o:Expr}{ma mb mo:ME}{pos:Pos}
end
end
section
section
variable {X:Cx}{a b c e o:Expr}{ma mb mo:ME}{pos:Pos}
end
end
end L2
namespace L2
open List
open PySem PySem.Spec PyProof.Rows
section
noncomputable def zn6 (src:List (Option Nat))(ρ:Ro):Ro:=src.map fun o=>o.bind fun i=>match ρ[i]? with |some (some (.sh d))=>some (.sh d)|some (some (.own ds))=>some (.own ds)|_=>none
@[irreducible] noncomputable def C9 (src:List (Option Nat))(mi:ML)(g:Tg)(c:MB)(elt:ME):ML:=fun ρ=>(mi ρ).bind fun its=>Y1 g c elt its (zn6 src ρ) []
noncomputable def zk4 (src:List (Option Nat)):Prop:=∀ i j k:Nat,src[i]? =some (some k)->src[j]? =some (some k)->i=j
theorem N0 {src:List (Option Nat)}(h:∀ i,i<src.length->∀ j,j<src.length->src[i]? =src[j]?->src[i]? =some none\/i=j):zk4 src:=fun i j k hi z=>by
 have I:=(List.getElem?_eq_some_iff.mp hi).1
 have G:=(List.getElem?_eq_some_iff.mp z).1
 rcases h i I j G (by rw[hi,z])with e|e
 .rw[hi]at e;ext e
 .exact e
theorem O6 {src:List (Option Nat)}{ρ:Ro}{i:Nat}{x:S}(e:(zn6 src ρ)[i]? =some (some x)):∃ k,src[i]? =some (some k)/\ρ[k]? =some (some x)/\nob (some x):=by
 delta zn6 at e
 rw[getElem?_map]at e
 cases h:src[i]? with
 |none=>rw[h]at e;ext e
 |some o=>
  rw[h]at e
  cases o with
  |none=>ext e
  |some k=>
   simp only[Option.map_some,Option.bind_some]at e
   split at e
   .rename_i d h';ext e;show⟨k,rfl,h',True.intro⟩
   .rename_i ds h';ext e;show⟨k,rfl,h',True.intro⟩
   .cases e
theorem O8 {src:List (Option Nat)}{σ:St}{i k:Nat}{v:V}(h:src[i]? =some (some k))(j:σ[k]? =some (some v)):(blk0 src σ)[i]? =some (some v):=by
 delta blk0
 rw[getElem?_map,h]
 simp only[Option.map_some,Option.bind_some,j];rfl
theorem M4 {src:List (Option Nat)}{σ:St}{i k:Nat}{v:V}(h:src[i]? =some (some k))(j:(blk0 src σ)[i]? =some (some v)):σ[k]? =some (some v):=by
 delta blk0 at j
 rw[getElem?_map,h]at j
 simp only[Option.map_some,Option.bind_some]at j
 cases hk:σ[k]? with
 |none=>rw[hk]at j;ext j
 |some o=>rw[hk]at j;simpa using j
theorem Rl.blkO {K:W.Frag}{F0 H0 F H:Hp}{σ:St}{ρ:Ro}(r:Rl K F0 H0 F H σ ρ){src:List (Option Nat)}(ok:zk4 src){p:Addr}(hp:H p=none):Rl K F (upd F p (.lst [])) F (upd H p (.lst [])) (blk0 src σ) (zn6 src ρ):=by
 have O:F p=none:=r.fh.free hp
 show⟨⟨Same.refl F,r.fh.put2,r.fh.put O,fun b e n=>absurd e n,fun _ _ _ z=>z⟩,by delta blk0 zn6;simp,fun i d e=>?_,fun i ds e=>?_,fun i j q ds es G e1 e2 s1 s2=>?_,fun i q ds e=>?_,fun i j q ds es e=>?_,fun i j q Y ds es e=>?_⟩
 .let⟨k,h1,h2,_⟩:=O6 e
  let⟨v,a,b⟩:=r.sh k d h2
  show⟨v,O8 h1 a,b⟩
 .let⟨k,h1,h2,_⟩:=O6 e
  let⟨q,xs,a,b,c,d,z⟩:=r.own k ds h2
  have I:q≠p:=fun w=>by rw[w,hp]at c;ext c
  show⟨q,xs,O8 h1 a,b,by rw[y4 I];show c,d,by rw[y4 I];show b⟩
 .let⟨k,h1,h2,_⟩:=O6 e1
  let⟨l,N,U,_⟩:=O6 e2
  show r.inj k l q ds es (fun w=>?_) h2 U (M4 h1 s1) (M4 N s2)
  subst w
  show G (ok i j k h1 N)
 .let⟨k,h1,h2,n⟩:=O6 e;show n.elim
 .let⟨k,h1,h2,n⟩:=O6 e;show n.elim
 .let⟨k,h1,h2,n⟩:=O6 e;show n.elim
theorem yb7 {K:W.Frag}{src:List (Option Nat)}{z:ML}{g:Tg}{c:MB}{i:ME}(so:zk4 src){σ:St}{H:Hp}{Q:VK}(h:TF K (C9 src z g c i) σ H Q):M5 src (TId K z) (TGd K g) (TC K c) (TD K i) σ H Q:=by
 let⟨F0,H0,F,ρ,out,O,e,q⟩:=h
 delta C9 at e
 cases h1:z ρ with
 |none=>rw[h1]at e;ext e
 |some its=>
  rw[h1]at e
  show⟨F0,H0,F,ρ,its,O,h1,fun J F1 H1 j I p hp=>?_⟩
  show zz0 j.fh hp ((O.go j).blkO so hp) I e fun xs F' H' xe N G U=>q p xs F' H' (j.trans xe) (j.hh.free hp) N G U
section
variable {X:Cx}{a b c e o:Expr}{ma mb mo:ME}{pos:Pos}{st:Stmt}
theorem yf4 {sc:Scope}{N:List Str}{src:List (Option Nat)}{tg j iter:Expr}{i:List Expr}{G:ML}{g:Tg}{cc:MB}{z:ME}(so:zk4 src)(B:Blk X sc N src)(Y:X.calm=true)
  (hi:PId X tg iter G) (O:∀ C fp s H,PGd (d4 X sc C N fp s H) tg g) (I:∀ C fp s H,PTsd (d4 X sc C N fp s H) i cc) (U:∀ C fp s H,PD (d4 X sc C N fp s H) j z)
  (hs:∀ x,foldedSetIterable iter X.env x=pure x:=by intro _;rfl):
  PF X (.ListComp j [⟨tg,iter,i,0⟩] sc pos) (C9 src G g cc z):=(C2 (g:=TGd X.K g) (tc:=TC X.K cc) (te:=TD X.K z) B Y hi (fun C fp s H=>O C fp s H) (fun C fp s H=>I C fp s H) (fun C fp s H=>U C fp s H) hs).imp fun _ _ _ h=>yb7 so h
end
end
section
section
variable {prog:Program}{w:World}{A:Around}{E:Value->Shared->Prop}{s:Shared}{l:Addr}{xs:Array (Int×Tok)}
end
section
variable {X:Cx}{a b c e o:Expr}{ma mb mo:ME}{pos:Pos}{st:Stmt}
end
section
variable {X:Cx}{a b c e:Expr}{na nb:MEm}{pos:Pos}{st:Stmt}{es:List Expr}{E:XK}{mf:MF}{m:MLm}
@[irreducible] noncomputable def zp2 (f:MF)(m:MLm):MEm:=fun ρ=>match m ρ with
 |some (ds,ρ1)=>(match f ds with |some (.sh d)=>some (d,ρ1)|some (.fr es)=>some (.lst es,ρ1)|_=>none)
 |none=>none
theorem yf8 {n:Nat}(h:∀ t,PA X es t->PE X e (zk3 (spR X.K n mf) [] E t))(O:es.length=n)(ha:PAm X es m)(hm:∀ ρ ds ρ',m ρ=some (ds,ρ')->ds.length=es.length):PDm X e (zp2 mf m):=(h _ ha).imp fun σ H Q j=>by
 let⟨F0,H0,F,ρ,d,ρ',N,e,q⟩:=j
 delta zp2 at e
 split at e
 .rename_i ds ρ1 h1
  show⟨F0,H0,F,ρ,ds,ρ1,N,h1,fun vs F1 H1 i s1 r1=>?_⟩
  show spR X.K n mf (vs++[]) H1 Q E
  rw[append_nil]
  show⟨by rw[r1.length,hm ρ ds ρ1 h1,O],F1,ds,?_⟩
  split at e
  .rename_i d' h2
   ext e
   show⟨_,i.fh,r1,h2,fun v F2 H2 z r2=>q v F2 H2 (i.go z) (s1.trans z.ff) r2⟩
  .rename_i es' h2
   ext e
   show⟨_,i.fh,r1,h2,fun p xs F2 H2 z hp I U r2=>?_⟩
   have G:=z.freeze I hp U
   show q _ (upd F2 p (.lst xs)) H2 (i.go G) (s1.trans G.ff) (.lst (SqL.of y3) (r2.mono ((Same.refl F2).put I)))
  .cases e
 .cases e
noncomputable abbrev MBm:=Ro->Option (Bool×Ro)
noncomputable def TCm (K:W.Frag)(c:MBm):TT:=fun σ H Q=>∃ F0 H0 F ρ b ρ',Rl K F0 H0 F H σ ρ/\c ρ=some (b,ρ')/\∀ F' H',Rl K F0 H0 F' H' σ ρ'->Same F F'->Q b H'
@[irreducible] noncomputable def Y7 (x:MEm):MBm:=fun ρ=>match x ρ with |some (.bl b,ρ1)=>some (b,ρ1)|_=>none
theorem yr7 {op:CmpOp}{r:R2}{f:D->D->Option D}(G:OpR X (compareOp op) r)(I:OpD X.K r f)(ha:PDm X a na)(N:PDm X b nb)(hm:behindInMarks op b=false):PT X (.Compare a [op] [b] pos) (TCm X.K (Y7 (m2m f na nb))):=(zj1 G ha N hm).imp fun σ H Q i=>by
 let⟨F0,H0,F,ρ,g,ρ',z,e,q⟩:=i
 delta Y7 at e
 split at e
 .rename_i k ρ1 hk
  ext e
  show ye2 I ⟨F0,H0,F,ρ,.bl g,ρ',z,hk,fun v F' H' j s' r=>?_⟩
  ext r
  show⟨_,rfl,q F' H' j s'⟩
 .cases e
@[irreducible] noncomputable def mifm (c:MBm)(x y:MS):MS:=fun ρ=>match c ρ with |some (true,ρ1)=>x ρ1|some (false,ρ1)=>y ρ1|none=>none
theorem yt7 {ca:MBm}{x y:List Stmt}{mx G:MS}(O:PT X c (TCm X.K ca))(N:PSsd X x mx)(I:PSsd X y G):PSd X (.If c x y pos) (mifm ca mx G):=(yf1 O N I).imp fun D σ H j=>by
 let⟨F0,H0,F,ρ,o,z,e,ok⟩:=j
 delta mifm at e
 split at e
 .rename_i ρ1 h1
  show⟨F0,H0,F,ρ,_,ρ1,z,h1,fun F1 H1 i s1=>iteT ⟨F0,H0,F1,ρ1,o,i,e,ok.mono s1⟩⟩
 .rename_i ρ1 h1
  show⟨F0,H0,F,ρ,_,ρ1,z,h1,fun F1 H1 i s1=>iteF ⟨F0,H0,F1,ρ1,o,i,e,ok.mono s1⟩⟩
 .cases e
end
end
section
section
variable {X:Cx}{a b c e:Expr}{na nb:MEm}{pos:Pos}{st:Stmt}{es:List Expr}{m:MLm}
@[irreducible] noncomputable def yd7 (i:Nat)(x:MEm):MS:=fun ρ=>match ρ[i]? with
 |some (some (.own _))=>(match x ρ with
  |some (d,ρ1)=>(match ρ1[i]? with |some (some (.own ds))=>if ds.length<sizeLine then some (.nx (ρ1.set i (some (.own (ds++[d])))))else none|_=>none)
  |none=>none)
 |_=>none
theorem yg9 {i:Nat}{x:Str}{G apos cpos:Pos}(Y:∀ t,PA X [e] t->PE X (.Call (.Attribute (.Name x G) "append" apos) [e] [] cpos) (tBM X.K "list" zv2 (tVar i) t))(Z:PAm X [e] (j3 na (apu anil)))(hs:swapsWith (.Call (.Attribute (.Name x G) "append" apos) [e] [] cpos) none pos.line X.env=pure false:=by rfl):
  PSd X (.Expr (.Call (.Attribute (.Name x G) "append" apos) [e] [] cpos) pos) (yd7 i na):=(zj4 (Y _ Z) hs).imp fun D σ H z=>by
 let⟨F0,H0,F,ρ,o,I,e,ok⟩:=z
 delta yd7 at e
 split at e
 .rename_i ds0 h0
  let⟨p,U,e1,e2,e3,e4,e5⟩:=I.own i _ h0
  split at e
  .rename_i d ρ1 h1
   split at e
   .rename_i ds h2
    split at e
    .rename_i hz
     ext e
     show⟨_,e1,.inl ⟨rfl,_,SqL.of e3⟩,F0,H0,F,ρ,[d],ρ1,I,by delta j3 apu anil;rw[h1],fun vs F1 H1 j s1 r1=>?_⟩
     cases r1 with
     |cons r rr=>
      ext rr
      let⟨p',xs,O,f2,f3,N,f5⟩:=j.own i _ h2
      rw[e1]at O;ext O
      show⟨p,xs,_,rfl,rfl,f3,by rw[N.length];show hz,ok F1 _ σ (j.write h2 e1 (N.append (.cons r .nil))) s1⟩
    .cases e
   .cases e
  .cases e
 .cases e
end
noncomputable def c8 (elt:MEm):List D->Ro->List D->Option (List D×Ro)
 |[],ρ,acc=>some (acc,ρ)
 |d::ds,ρ,acc=>match elt (ρ.set 0 (some (.sh d)))with
  |some (x,ρ1)=>if acc.length<sizeLine then c8 elt ds ρ1 (acc++[x])else none
  |none=>none
theorem Rl.rebaseB {K:W.Frag}{F1 F H B:Hp}{σ:St}{ρ:Ro}{p:Addr}{xs ys:List V}(r:Rl K F1 (upd B p (.lst xs)) F H σ ρ)(G:F p=none):Rl K F1 (upd B p (.lst ys)) F (upd H p (.lst ys)) σ ρ:=by
 have ne:∀ q,upd B p (.lst xs) q=none->q≠p:=fun q z w=>by rw[w,y3]at z;ext z
 show⟨⟨r.ext.ff,fun b u e=>?_,r.fh.put G,fun b e n=>?_,r.ext.nf⟩,r.len,r.sh,fun i ds e=>?_,r.inj,fun i q ds e=>?_,r.obn,r.ob1⟩
 .by_cases hb:b=p
  .subst hb;rw[y3]at e ⊢;show e
  .rw[y4 hb]at e ⊢
   show r.ext.hh b u (by rw[y4 hb];show e)
 .have hb:b≠p:=fun w=>by rw[w,G]at n;show n rfl
  have:=r.ext.new b e n
  rw[y4 hb]at this ⊢;show this
 .let⟨q,zs,a,b,c,d,z⟩:=r.own i ds e
  have j:=ne q z
  rw[y4 j]at z
  show⟨q,zs,a,b,by rw[y4 j];show c,d,by rw[y4 j];show z⟩
 .let⟨a,b,z,zs,c,d⟩:=r.ob i q ds e
  have j:=ne q z
  rw[y4 j]at z
  show⟨a,b,by rw[y4 j];show z,zs,by rw[y4 j];show c,d⟩
theorem zg8 {i:MEm}{d:D}{ds acc:List D}{ρ:Ro}{r:List D×Ro}(h:c8 i (d::ds) ρ acc=some r):∃ x ρ1,i (ρ.set 0 (some (.sh d)))=some (x,ρ1)/\acc.length<sizeLine/\c8 i ds ρ1 (acc++[x])=some r:=by
 rw[c8]at h
 cases h4:i (ρ.set 0 (some (.sh d)))with
 |none=>rw[h4]at h;ext h
 |some z=>
  rw[h4]at h
  let⟨x,ρ1⟩:=z
  simp only at h
  by_cases j:acc.length<sizeLine
  .rw[if_pos j]at h;show⟨x,ρ1,rfl,j,h⟩
  .rw[if_neg j]at h;ext h
theorem Rl.stayB {K:W.Frag}{F1 F H B:Hp}{σ:St}{ρ:Ro}{p:Addr}{o:HO}(r:Rl K F1 (upd B p o) F H σ ρ)(h:F1 p=none):F p=none:=by
 cases w:F p with
 |none=>rfl
 |some u=>have:=r.ext.new p h (by rw[w];simp);rw[y3]at this;ext this
theorem zx5 {K:PySem.W.Frag}{src:List (Option Nat)}{a3:MEm}{its out r1:List D}{ρb a7:Ro}{j:Nat}{F1 H1:Hp}{σ:St}{p rr:Addr}{J:It}{Q:VK}(f1:Same F1 H1)(hp:H1 p=none)(a9:rr≠p)(hj:j≠0)(I:ItD K F1 J its)(rb:Rl K F1 (upd (del H1 rr) p (.lst [])) F1 (upd H1 p (.lst [])) (blk0 src σ) a7)(a4:(blk0 src σ)[j]? =some (some (.ref rr)))(h2:c8 a3 its a7 []=some (out,ρb))(h3:ρb[j]? =some (some (.own r1)))
  (q:∀ xs zs F' H',Ext F1 (del H1 rr) F' H'->F' rr=none->H' rr=some (.lst zs)->Reps K F' zs r1->F' p=some (.lst xs)->Reps K F' xs out->Q (.ref p) H'):
  ∃ W:Nat->Nat->St->Hp->Prop,(∃ m,W 0 m (blk0 src σ) (upd H1 p (.lst [])))/\∀ i m U H',W i m U H'->
   (J.stop i H'/\Q (.ref p) H')\/(J.go i H'/\∃ N:St->Hp->Prop,(∀ O H2,N O H2->∃ m',m'<m/\W (i+1) m' O H2)/\∀ x H2,J.yld i H' x H2->X3 0 x U H2 fun Z H3=>tYes Z H3 fun b H4=>
    if b=true then TDm K a3 Z H4 fun y H5=>∃ xs,H5 p=some (.lst xs)/\xs.length<sizeLine/\N Z (upd H5 p (.lst (xs++[y])))else N Z H4):=by
 have ac:F1 p=none:=f1.free hp
 have ab:del H1 rr p=none:=by rw[U8 (Ne.symm a9)];show hp
 show⟨fun k m U H'=>∃ F' ρ' acc xs,Rl K F1 (upd (del H1 rr) p (.lst xs)) F' H' U ρ'/\Reps K F' xs acc/\U[j]? =some (some (.ref rr))/\k<=its.length/\m=its.length-k/\c8 a3 (its.drop k) ρ' acc=some (out,ρb),
  ⟨_,F1,_,[],[],rb,.nil,a4,Nat.zero_le _,rfl,h2⟩,?_⟩
 clear rb a4 h2
 rintro k m U H' ⟨F',ρ',acc,xs,z,ra,a8,ae,rfl,e'⟩
 by_cases Y:k<its.length
 .right
  have hd:=getElem?_eq_getElem Y
  show⟨I.go k F' H' z.ext.ff z.fh Y,fun O H2=>∃ F2 a1 G a2,Rl K F1 (upd (del H1 rr) p (.lst a2)) F2 H2 O a1/\Reps K F2 a2 G/\O[j]? =some (some (.ref rr))/\c8 a3 (its.drop (k+1)) a1 G=some (out,ρb),?_,fun x H2 y=>?_⟩
  .rintro O H2 ⟨F2,a1,G,a2,b1,b2,b3,b4⟩
   show⟨its.length-(k+1),Nat.sub_lt_sub_left Y (Nat.lt_succ_self k),F2,a1,G,a2,b1,b2,b3,Y,rfl,b4⟩
  .let⟨F2,x2,r2⟩:=I.yld k F' H' x H2 _ z.ext.ff z.fh hd y
   rw[g7 hd]at e'
   let⟨d,ρ1,h4,hz,e4⟩:=zg8 e'
   clear e' I q y hd h3
   delta X3 tYes
   show iteT ⟨F1,_,F2,_,d,ρ1,(z.go x2).set r2,h4,fun v F5 H5 a5 s5 r5=>?_⟩
   show⟨xs,a5.ext.hh p _ y3,by rw[ra.length];show hz,F5,ρ1,acc++[d],xs++[v],a5.rebaseB (a5.stayB ac),(ra.mono (x2.ff.trans s5)).append (.cons r5 .nil),by rw[getElem?_set_ne (Ne.symm hj)];show a8,e4⟩
 .left
  have aa:k=its.length:=Nat.le_antisymm ae (Nat.le_of_not_lt Y)
  subst aa
  rw[drop_length]at e'
  have e':some (acc,ρ')=some (out,ρb):=e'
  ext e'
  show⟨I.stop F' H' z.ext.ff z.fh,?_⟩
  have a6:=z.stayB ac
  let⟨q',zs,ad,f2,f3,f4,f5⟩:=z.own j r1 h3
  rw[a8]at ad;ext ad
  have x:Ext F1 (del H1 rr) F' H':=⟨z.ext.ff,fun b u hb=>z.ext.hh b u (by
    have:b≠p:=fun w=>by rw[w,ab]at hb;ext hb
    rw[y4 this];show hb),z.fh,fun b hb n=>by
    have nb:b≠p:=fun w=>by rw[w,a6]at n;show n rfl
    have:=z.ext.new b hb n
    rwa [y4 nb]at this,z.ext.nf⟩
  have s2:Same F' (upd F' p (.lst xs)):=(Same.refl F').put a6
  show q xs zs _ H' (x.freeze a6 ab (z.ext.hh p _ y3)) (by rw[y4 a9];show f2) f3 (f4.mono s2) y3 (ra.mono s2)
section
variable {X:Cx}{pos:Pos}
end
end
section
section
variable {X:Cx}{e:Expr}{na:MEm}{pos:Pos}{st:Stmt}{es:List Expr}{m:ML}{mf:MG}{E:XK}
noncomputable def X8:List D->Bool
 |[]=>true
 | .int _::r=>X8 r
 |_=>false
theorem ye6 (ns:List Int):X8 (ns.map .int)=true:=by
 induction ns with
 |nil=>rfl
 |cons n ns i=>show i
theorem V5 {K:W.Frag}{F F':Hp}:∀{vs:List V}{ds:List D},X8 ds=true->Reps K F vs ds->Reps K F' vs ds
 |_,[],_,.nil=>.nil
 |_,d::ds,h,.cons r rr=>by
  cases r with
  |int k=>show .cons (.int k) (V5 h rr)
  |_=>ext h
theorem D6 {K:W.Frag}{F F':Hp}:∀{vs ws:List V}{ds:List D},X8 ds=true->Reps K F vs ds->Reps K F' ws ds->vs=ws
 |_,_,[],_,.nil,.nil=>rfl
 |_,_,d::ds,h,.cons r rr,.cons r' rr'=>by
  cases r with
  |int k=>
   ext r'
   have h:X8 ds=true:=h
   rw[D6 h rr rr']
  |_=>ext h
open Classical in
end
end
section
noncomputable def rng3:List D->Option (List D)
 |[.int i,.int j,.int k]=>if -1<=i/\i<2^61/\j= -1/\k= -1 then some (K2 (i+1).toNat)else none
 |_=>none
theorem zs9 (i:Int)(h:-1<=i):Builtin.Range.rangeSize i (-1) (-1)=((i+1).toNat:Int):=by
 unfold Builtin.Range.rangeSize
 rw[if_neg (by decide)]
 split
 .rw[show (-(-1):Int)=1 by decide,Int.ediv_one];lia
 .lia
theorem yy7 (i:Int)(h:-1<=i)(h2:i<2^61):Builtin.Range.small i (-1) (-1)=true:=by
 unfold Builtin.Range.small
 rw[zs9 i h]
 unfold Builtin.Range.rangeFitsLong
 simp
 lia
section
variable {X:Cx}
theorem yx0 {tg a b c:Expr}{m:ML}{p pos:Pos}(hg:Gl X "range")(hm:X.mg "range"=none)(ha:PAs X [a,b,c] m)(he:starEach [a,b,c] X.env=(false,eval a X.env)::starEach [b,c] X.env:=by rfl)(Z:(backTo pos (starEach [b,c] X.env)).any (·.1)=false:=by rfl):
  PId X tg (.Call (.Name "range" p) [a,b,c] [] pos) (t9 rng3 m):=by
 intro pins s σ H R I h
 let⟨F0,H0,F,ρ,its,rl,e,q⟩:=h
 let⟨ds,h1,h2⟩:=U3 e
 show Call_ (U7 I hg hm boot_range (PyProof.Rows.callWith_type1 (thn (ha pos pins s σ H (fun vs H1=>∃ i:Int,vs=[.int i,.int (-1),.int (-1)]/\ -1<=i/\i<2^61/\R (Itdn i (i+1).toNat) H1) I ⟨F0,H0,F,ρ,ds,rl,h1,fun vs F1 H1 x1 r1=>?_⟩) fun us s1 ⟨vs,H1,I1,r1,q1⟩=>?_) he Z))
 .delta rng3 at h2
  split at h2
  .rename_i i j k
   split at h2
   .rename_i hk
    let⟨G,Y,rfl,rfl⟩:=hk
    ext h2
    cases r1 with
    |cons r rr=>
     cases rr with
     |cons r2 rr=>
      cases rr with
      |cons U rr=>
       ext rr;ext r;ext r2;ext U
       show⟨i,rfl,G,Y,q _ F1 H1 x1 ?_⟩
       have:i=((i+1).toNat:Int)-1:=by lia
       have z:=za3 (K:=X.K) (F:=F1) (n:=(i+1).toNat)
       rw[<-this]at z
       show z
   .cases h2
  .cases h2
 .let⟨i,e,G,Y,q⟩:=q1
  subst e
  cases r1 with
  |cons r rr=>
   cases rr with
   |cons r2 rr=>
    cases rr with
    |cons U rr=>
     ext rr
     let⟨t,rfl⟩:=r
     let⟨O,rfl⟩:=r2
     let⟨N,rfl⟩:=U
     show call_range_3 (by decide) ?_ (Or.inl (PyProof.noPylong_small (by lia)))
     show wpAny_pyIter_range (IsRange.new ..) (yy7 i G Y) ?_
     have I2:Inv X pins σ H1 { s1 with heap:=s1.heap.push { cls:=.type "range",data:=.fields #[.int i t,.int (-1) O,.int (-1) N] },toks:=s1.toks }:=I1.kept fun b o e=>Heap.get?_push_of_some _ e
     show⟨_,[(s1.heap.push { cls:=.type "range",data:=.fields #[.int i t,.int (-1) O,.int (-1) N] }).objs.size],_,_,H1,rfl,
      I2.kept (t':=s1.toks) fun b o e=>Heap.get?_push_of_some _ e,zs3 _ i (i+1).toNat,?_,fun b hb=>?_,q⟩
     .have e1:i+((0:Nat):Int)*(-1)=i:=by simp
      have e2:(((i+1).toNat:Nat):Int)-((0:Nat):Int)=Builtin.Range.rangeSize i (-1) (-1):=by rw[zs9 i G];simp
      show IsRangeIter _ _ (i+((0:Nat):Int)*(-1)) ((((i+1).toNat:Nat):Int)-((0:Nat):Int)) (-1)
      rw[e1,e2]
      show Heap.get?_push_size _ rfl
     .have e:b=(s1.heap.push { cls:=.type "range",data:=.fields #[.int i t,.int (-1) O,.int (-1) N] }).objs.size:=by simpa using hb
      subst e
      show I2.fpOk (Nat.le_refl _) (I2.hok.fresh (Nat.le_refl _))
end
end
section
section
variable {X:Cx}{e:Expr}{pos:Pos}
@[irreducible] noncomputable def many (m:ML):ME:=fun ρ=>match m ρ with |some ds=>(match O2 ds with |some ns=>some (.bl (ns.any fun i=>i != 0))|none=>none)|none=>none
end
end
section
section
variable {X:Cx}{e:Expr}{ma:ME}{pos:Pos}
end
end
section
section
variable {X:Cx}{e:Expr}{ma:ME}{pos:Pos}
end
end
section
section
variable {prog:Program}{w:World}{A:Around}{E:Value->Shared->Prop}{s:Shared}
end
section
variable {X:Cx}
end
end
section
section
variable {X:Cx}{a:Expr}{na:MEm}{pos:Pos}{ca:MBm}
theorem ye0 (ha:PDm X a na)(G:∀ i,isTrue a X.env i=(do let v ← i;standAt a.pos;holding [v] (truthy v)):=by intro _;rfl):PT X a (TCm X.K (Y7 na)):=(zd6 ha G).imp fun σ H Q I=>by
 let⟨F0,H0,F,ρ,b,ρ',z,e,q⟩:=I
 delta Y7 at e
 split at e
 .rename_i b' ρ1 h1
  ext e
  show⟨F0,H0,F,ρ,_,_,z,h1,fun x F1 H1 j s1 r1=>⟨b,?_,q F1 H1 j s1⟩⟩
  ext r1
  rfl
 .cases e
@[irreducible] noncomputable def yw5 (c:MBm):MBm:=fun ρ=>match c ρ with |some (b,ρ1)=>some (!b,ρ1)|none=>none
theorem xt5 (ha:PT X a (TCm X.K ca)):PT X (.UnaryOp .Not a pos) (TCm X.K (yw5 ca)):=(xz1 ha).imp fun σ H Q z=>by
 let⟨F0,H0,F,ρ,b,ρ',j,e,q⟩:=z
 delta yw5 at e
 split at e
 .rename_i k ρ1 h1
  ext e
  show⟨F0,H0,F,ρ,k,ρ',j,h1,fun F1 H1 i s1=>q F1 H1 i s1⟩
 .cases e
end
end
section
section
variable {X:Cx}{a b:Expr}{m:ML}{pos:Pos}
end
end
end L2
namespace L2
open List
open PySem
section
section
open PySem.Sem (wp)
end
end
end L2
namespace L2
open List
open PySem PySem.Spec PyProof.Rows
section
section
variable {M:Model}{A:Around}{E:Value->Shared->Prop}{s:Shared}{base:Heap}{env:Env}{outer:List Env}{L e:Addr}
end
end
end L2
namespace L2
open List
open PySem PySem.Spec PyProof.Rows PySem.W PySem.Builtin PySem.Builtin.ObjectAttr PySem.Builtin.Getset_descriptor
section
structure XCls (K:W.Frag)(C:Addr):Prop where
 ga:findIn K (.ref C) "__getattribute__"=some (some (.builtin "BaseException.__getattribute__"))
 nog:findIn K (.ref C) "__getattr__"=some none
 cl:findIn K (.ref C) "__class__"=some (some (.builtin "object.__class__"))
 ob:mroIn K C (.type "object")=some true
 be:mroIn K C (.type "BaseException")=some true
section
variable {prog:Program}{w:World}{A:Around}{E:Value->Shared->Prop}{K:W.Frag}{x C:Addr}{ox:Obj}{h:Heap}{g:Array GenState}{d:Drawn}{t:Nat}{os:OsState}
end
end
end L2
namespace L2
open List
open PySem PySem.Spec PyProof.Rows
section
structure Flown (P:Program)(w:World)(outer:List Env)(H:Hp)(s:Shared)(H':Hp)(B h':Heap):Prop where
 un:Un (frs outer) [] H H' s.heap h'
 ok:HOk P w H' h'
 st:B.StaysIn h'
 trk:∀ b o,H' b=some o->∃ ob,B.get? b=some ob
 old:∀ b o,s.heap.get? b=some o->b∉frs outer->∃ ob,B.get? b=some ob
section
variable {P:Program}{w:World}{outer:List Env}{H H':Hp}{s:Shared}{B h1 h2 base:Heap}
end
structure Top (X:Cx):Prop where
 stk:X.stack=X.env::X.outer
 frm:X.env.frame=some X.env.locals
 ex:X.ex=[]
section
variable {X:Cx}{pins:List (Addr×Obj)}{σ:St}{H H':Hp}{s:Shared}{B h1:Heap}
end
noncomputable def XC (K:W.Frag)(c:Str)(C:Addr):Prop:=W.nsIn K mainGlobals c=some (some (.ref C))/\xn9 K C=some c
section
variable {X:Cx}{pins:List (Addr×Obj)}{σ:St}{H:Hp}{s:Shared}{W:Str->St->Hp->Prop}
end
section
variable {X:Cx}{pins pins':List (Addr×Obj)}{σ:St}{H:Hp}{s:Shared}{E:Value->Shared->Prop}
variable (nx:X.xe=noE)
include nx
end
end
section
section
variable {X:Cx}{st:Stmt}{rest:List Stmt}{e c:Expr}{pos:Pos}
end
end
section
section
variable {X:Cx}{pins:List (Addr×Obj)}{E:Value->Shared->Prop}(nx:X.xe=noE)
include nx
end
section
variable {X:Cx}{e c:Expr}{pos:Pos}{st:Stmt}{rest:List Stmt}
end
end
section
section
variable {X:Cx}{pins:List (Addr×Obj)}{σ:St}{H:Hp}{s:Shared}{a C:Addr}
end
section
variable {X:Cx}{pos np hpos:Pos}
end
end
section
structure RoomN (k:Nat)(A:Around):Prop where
 dp:A.depth+3*k+5<recursionLimit
 un:A.units+16*k+200<cLine
structure FnOkN (P:Program)(w:World)(K:W.Frag)(mg:Str->Option Value)(base:Heap)(CX:CXT)(k:Nat)(f:Addr)(fd:FuncData)(ps:List Str)(sp:Sp):Prop where
 len:∀ vs H Q E,sp vs H Q E->vs.length=ps.length
 run:∀(A:Around)(outer:List Env)(s:Shared)(H:Hp)(args:Args)(us:List Value)(vs:List V)(Q:VK)(E:XK),RoomN k A->Env0 P w K mg base A outer s H->BindsTo s fd args (ps.zip us)->Vals vs us->sp vs H Q E->
  codeAny (model P w) A (.call (.ref f) args) (CR CX outer P w H s Q E) s
section
variable {X:Cx}{CX:CXT}{k:Nat}{f:Addr}{fd:FuncData}{ps:List Str}{sp:Sp}{dvs:List V}{ds:List Value}{E:XK}{x:Str}{p pos:Pos}{e:Expr}{es:List Expr}{t:TA}
end
section
variable {X:Cx}{a:Expr}{ma:ME}{pos:Pos}
end
end
section
section
variable {X:Cx}{a:Expr}{ma:ME}{pos:Pos}
open PySem.SeqAt in
end
end
section
@[irreducible] noncomputable def R9 (src:List (Option Nat))(mi:ML)(i j:Nat)(elt:MEm):MEm:=fun ρ=>match ρ[i]? with
 |some (some (.ob rr r0))=>(match mi ρ with
  |some its=>(match c8 elt its ((V2 src ρ).set j (some (.own r0))) []with
   |some (out,ρb)=>(match ρb[j]? with |some (some (.own r1))=>some (.lst out,ρ.set i (some (.ob rr r1)))|_=>none)
   |none=>none)
  |none=>none)
 |_=>none
theorem Rl.blkJB {K:W.Frag}{F0 H0 F H:Hp}{σ:St}{ρ:Ro}(r:Rl K F0 H0 F H σ ρ){src:List (Option Nat)}{i j:Nat}{r0:List D}{rr p:Addr}(hs:src[j]? =some (some i))(hi:ρ[i]? =some (some (.ob rr r0)))(hp:H p=none):
  Rl K F (upd (del H rr) p (.lst [])) F (upd H p (.lst [])) (blk0 src σ) ((V2 src ρ).set j (some (.own r0))):=by
 let⟨rb,Y⟩:=r.blk src
 let⟨ha,b,z,xs,c,d⟩:=r.ob i rr r0 hi
 have I:rr≠p:=fun w=>by rw[w,hp]at c;ext c
 have Z:F p=none:=r.fh.free hp
 have only:∀ k ds,((V2 src ρ).set j (some (S.own r0)))[k]? =some (some (.own ds))->k=j/\ds=r0:=fun k ds e=>by
  by_cases N:j=k
  .subst N
   have O:j<(V2 src ρ).length:=by
    rcases Nat.lt_or_ge j (V2 src ρ).length with w|w
    .exact w
    .rw[getElem?_eq_none (by simpa using w)]at e;ext e
   rw[getElem?_set_self O]at e;ext e;show⟨rfl,rfl⟩
  .rw[getElem?_set_ne N]at e;show absurd e (Y k ds).1
 have G:∀(k:Nat)(q:Addr)(ds:List D),((V2 src ρ).set j (some (S.own r0)))[k]? ≠some (some (S.ob q ds)):=fun k q ds e=>(Y k ds).2 q (t6 e).2
 show⟨⟨Same.refl F,fun b u e=>?_,r.fh.put Z,fun b e n=>absurd e n,fun _ _ _ z=>z⟩,by simp[rb.len],fun k d' e=>?_,fun k ds e=>?_,fun k l q ds es U e1 e2=>?_,fun k q ds e=>absurd e (G k q ds),fun k l q ds es e=>absurd e (G k q ds),fun k l q q' ds es e=>absurd e (G k q ds)⟩
 .by_cases hb:b=p
  .subst hb;rw[y3]at e ⊢;show e
  .rw[y4 hb]at e ⊢
   by_cases hr:b=rr
   .rw[hr,E7]at e;ext e
   .rw[U8 hr]at e;show e
 .by_cases N:j=k
  .subst N
   have O:j<(V2 src ρ).length:=by
    rcases Nat.lt_or_ge j (V2 src ρ).length with w|w
    .exact w
    .rw[getElem?_eq_none (by simpa using w)]at e;ext e
   rw[getElem?_set_self O]at e;ext e
  .rw[getElem?_set_ne N]at e
   show rb.sh k d' e
 .let⟨rfl,rfl⟩:=only k ds e
  show⟨rr,xs,O8 hs ha,b,by rw[y4 I];show c,d,by rw[y4 I,E7]⟩
 .exact absurd ((only k ds e1).1.trans (only l es e2).1.symm) U
theorem yj0 {K:W.Frag}{src:List (Option Nat)}{Z:ML}{i j:Nat}{G:MEm}(hs:src[j]? =some (some i))(hj:j≠0){σ:St}{H:Hp}{Q:VK}(h:TDm K (R9 src Z i j G) σ H Q):M5 src (TId K Z) (X3 0) tYes (TDm K G) σ H Q:=by
 let⟨F0,H0,F,ρ,g,ρ',Y,e,q⟩:=h
 delta R9 at e
 split at e
 .rename_i rr r0 hi
  split at e
  .rename_i its h1
   split at e
   .rename_i out ρb h2
    split at e
    .rename_i r1 h3
     ext e
     show⟨F0,H0,F,ρ,its,Y,h1,fun J F1 H1 N I p hp=>?_⟩
     have z:=Y.go N
     let⟨a1,a2,a5,ys,a3,a4⟩:=z.ob i rr r0 hi
     have O:rr≠p:=fun w=>by rw[w,hp]at a3;ext a3
     show zx5 N.fh hp O hj I (z.blkJB hs hi hp) (O8 hs a1) h2 h3 fun xs zs F' H' U b1 b2 b3 b4 b5=>q _ _ _ (z.lentB hi U b1 b2 b3) (N.ff.trans U.ff) (.lst (SqL.of b4) b5)
    .cases e
   .cases e
  .cases e
 .cases e
section
variable {X:Cx}{pos:Pos}
end
end
section
section
variable {X:Cx}{v:Expr}{mv:ME}{pos:Pos}
end
end
section
noncomputable def insI (a:Int):List Int->List Int
 |[]=>[a]
 |b::r=>if a<=b then a::b::r else b::insI a r
noncomputable def G4:List Int->List Int
 |[]=>[]
 |a::r=>insI a (G4 r)
theorem A0 (a:Int):∀ r,(insI a r).Perm (a::r)
 |[]=>.refl _
 |b::r=>by
  unfold insI
  split
  .exact .refl _
  .exact((A0 a r).cons b).trans (.swap a b r)
theorem K1:∀ ns,(G4 ns).Perm ns
 |[]=>.refl _
 |a::r=>(A0 a _).trans ((K1 r).cons a)
theorem B9 (a:Int):∀ r,r.Pairwise (·<=·)->(insI a r).Pairwise (·<=·)
 |[],_=>pairwise_singleton ..
 |b::r,h=>by
  have h':=List.pairwise_cons.mp h
  unfold insI
  split
  .rename_i hab
   show List.pairwise_cons.mpr ⟨fun x i=>?_,h⟩
   rcases List.mem_cons.mp i with e|i
   .rw[e];show hab
   .exact Int.le_trans hab (h'.1 x i)
  .rename_i hab
   show List.pairwise_cons.mpr ⟨fun x i=>?_,B9 a r h'.2⟩
   rcases List.mem_cons.mp ((A0 a r).mem_iff.mp i)with e|i
   .rw[e];lia
   .exact h'.1 x i
theorem J1:∀ ns,(G4 ns).Pairwise (·<=·)
 |[]=>.nil
 |a::r=>B9 a _ (J1 r)
theorem D4:∀{a b:List Int},a.Perm b->a.Pairwise (·<=·)->b.Pairwise (·<=·)->a=b
 |[],b,p,_,_=>(List.Perm.nil_eq p)
 |x::a,[],p,_,_=>absurd p.length_eq (by simp)
 |x::a,y::b,p,ha,hb=>by
  have h1:=List.pairwise_cons.mp ha
  have h2:=List.pairwise_cons.mp hb
  have e:x=y:=by
   have m1:x∈y::b:=p.mem_iff.mp mem_cons_self
   have m2:y∈x::a:=p.mem_iff.mpr mem_cons_self
   rcases List.mem_cons.mp m1 with e|m1
   .exact e
   .rcases List.mem_cons.mp m2 with e|m2
    .exact e.symm
    .have:=h2.1 x m1
     have:=h1.1 y m2
     lia
  subst e
  rw[D4 ((perm_cons x).mp p) h1.2 h2.2]
theorem J2 (ns:List Int):(G4 ns).length=ns.length:=(K1 ns).length_eq
theorem B7:∀{ns:List Int}{its:List Value},Vals (ns.map V.int) its->IntsAre its ns
 |[],_,.nil=>.nil
 |n::ns,_,.cons r t=>by
  let⟨k,rfl⟩:=r
  show .cons n k (B7 t)
theorem zy2:∀{ns:List Int}{its:List Value},IntsAre its ns->Vals (ns.map V.int) its
 |[],_,.nil=>.nil
 |n::ns,_,.cons _ k t=>.cons ⟨k,rfl⟩ (zy2 t)
section
variable {X:Cx}{e:Expr}{pos:Pos}
end
end
section
section
variable {X:Cx}{pins:List (Addr×Obj)}{σ:St}
set_option maxHeartbeats 8000000 in
theorem yo0 {q:Addr}{mk:D->Option D}(hk:zf9 X (.ref q) mk)(hc:X.calm=true)(hu:X.A.units+64<cLine){l I S:Addr}{xs:List V}{ds:List D}{kw:List (Str×Value)}{dm:D}(a2:I≠S)(ah:l≠I)(ag:l≠S):
  ∀(r j:Nat)(H F H0 F0:Hp)(s:Shared)(xb yb:V)(U Y:Value)(db G:D)(c:Nat)(R:Result->Shared->Prop),
   ds.length-(j+1)=r->j+1<=ds.length->Inv X pins σ H s->Ext F0 H0 F H->SqT X.K H l xs->Reps X.K F xs ds->s.heap.IsTupleIter I l (j+1)->s.heap.get? S=some (seqObj "list" #[U,Y] c)->FpOk X pins H I->FpOk X pins H S->
   RelV xb U->Rep X.K F xb db->RelV yb Y->Rep X.K F yb G->minF mk (ds.drop (j+1)) db G=some dm->
   (∀ x v F' H' s',Inv X pins σ H' s'->RelV x v->Ext F0 H0 F' H'->Rep X.K F' x dm->R (.ok (.ret v)) s')->
   codeAny (model X.prog X.w) X.A (.builtin "min.loop" ⟨[.ref I,.ref q,.ref S],kw⟩) R s:=by
 have O:(toString "min"++toString ".loop":String)="min.loop":=by decide
 intro r
 induction r with
 |zero=>
  intro j H F H0 F0 s xb yb U Y db G c R hr hj I' ext sq rs a1 hS fI fS rb pb ry py hm hR
  have ac:j+1=ds.length:=by lia
  let⟨its,vr,pl,_⟩:=I'.tuple sq
  have zl:its.length=ds.length:=by rw[<-vr.length,rs.length]
  rw[ac,drop_length]at hm
  have hm:some db=some dm:=hm
  ext hm
  show codeAny_builtin PySem.F.entry_min_loop ?_
  rw[Around.under_plainId PySem.F.plain_min_loop _]
  show wpAny _ X.A.in1 (seqItems? (.ref S) >>= _) _ _ _
  show wpAny_bind (wpAny_seqItems hS rfl ?_)
  show wpAny _ X.A.in1 (tryCatch (pyNext (.ref I)) _ >>= _) _ _ _
  show wpAny_bind (wpAny_tryCatch (wpAny_pyNext_tuple_end (I'.ok.hd hc) a1 pl (by simp;lia) fun h' a7=>?_))
  have af:h'.get? S=some (seqObj "list" #[U,Y] c):=a7 S _ (Ne.symm a2) hS
  have s1:=Heap.SameBut.update h' S (Obj.mapSeq fun _=>(#[]:Array Value))
  show wpAny _ X.A.in1 (updateSeq S (fun _=>#[]) >>= _) _ _ _
  show wpAny_bind ?_
  show wpAny_updateSeq af rfl (wpAny_bind (wpAny_letGo (wpAny_pure ?_)))
  have I9:Inv X pins σ H { s with heap:=h'.update S (Obj.mapSeq fun _=>(#[]:Array Value)),toks:=s.toks }:=I'.turnedL (fp:=[I,S]) (t':=s.toks) (fun b o i e=>by
   simp only[mem_cons,not_mem_nil,or_false,not_or]at i
   show(s1.2 b i.2).trans (a7 b o i.1 e)) (fun b i=>by
   simp only[mem_cons,not_mem_nil,or_false]at i
   rcases i with rfl|rfl <;> assumption)
  show hR xb U F H _ I9 rb ext pb
 |succ r ih=>
  intro j H F H0 F0 s xb yb U Y db G c R hr hj I' ext sq rs a1 hS fI fS rb pb ry py hm hR
  have Z:j+1<ds.length:=by lia
  let⟨its,vr,pl,_⟩:=I'.tuple sq
  have zl:its.length=ds.length:=by rw[<-vr.length,rs.length]
  obtain⟨d,hd⟩:∃ d,ds[j+1]? =some d:=⟨_,getElem?_eq_getElem Z⟩
  let⟨x,hx,px⟩:=rs.get hd
  let⟨v,hv,rx⟩:=vr.get hx
  rw[g7 hd]at hm
  unfold minF at hm
  cases hkd:mk d with
  |none=>rw[hkd]at hm;ext hm
  |some kd=>
   rw[hkd]at hm
   dsimp only at hm
   show codeAny_builtin PySem.F.entry_min_loop ?_
   rw[Around.under_plainId PySem.F.plain_min_loop _]
   show wpAny _ X.A.in1 (seqItems? (.ref S) >>= _) _ _ _
   show wpAny_bind (wpAny_seqItems hS rfl ?_)
   show wpAny _ X.A.in1 (tryCatch (pyNext (.ref I)) _ >>= _) _ _ _
   show wpAny_bind (wpAny_tryCatch (wpAny_pyNext_tuple_item a1 pl (by simpa using hv) fun h1 a9 s1=>?_))
   have I1:Inv X pins σ H { s with heap:=h1,toks:=s.toks }:=I'.turnedL (fp:=[I]) (fun b o i e=>s1.extBut b o (by simpa using i) e) (fun b i=>by rw[List.mem_singleton.mp i];show fI)
   have ae:h1.get? S=some (seqObj "list" #[U,Y] c):=s1.extBut _ _ (Ne.symm a2) hS
   let⟨oI,eI,cI,dI⟩:=id a9
   have Ip:=I1.pin2 fI fS eI ae (fun v z=>by rw[dI]at z;ext z) (fun v z=>by ext z)
   show wpAny _ X.A.in1 (tryCatch (holding [v] (call (.ref q) [v])) _ >>= _) _ _ _
   show wpAny_bind (wpAny_tryCatch (wpAny_holding (wpAny_mono (hk (pins++[(I,oI),(S,seqObj "list" #[U,Y] c)]) σ H F _ x v d kd Ip ext.fh px rx hkd) (fun w s2 hw=>?_) fun _ _ z=>z.elim)))
   let⟨y,F2,H2,I2,a5,N,a6⟩:=hw
   have pI:=I2.pin (I,oI) (by simp)
   have pS:=I2.pin (S,seqObj "list" #[U,Y] c) (by simp)
   have a4:Inv X pins σ H2 s2:=I2.unpinned
   have ab:FpOk X pins H2 I:=fI.now pI.2.1
   have a3:FpOk X pins H2 S:=fS.now pS.2.1
   have a8:s2.heap.IsTupleIter I l (j+1+1):=⟨oI,pI.1,cI,dI⟩
   cases hlt8:ltF 8 kd G with
   |none=>rw[hlt8]at hm;ext hm
   |some bt=>
    rw[hlt8]at hm
    have aa:=yc3 a4 8 (A:=X.A.in1) (by show X.A.units+1+8<cLine;lia) (a6.mono N.fh) ((py.mono N.ff).mono N.fh) a5 ry hlt8
    show wpAny _ X.A.in1 (tryCatch (holding [v,w] (richCompare .Lt w Y >>= _)) _ >>= _) _ _ _
    show wpAny_bind (wpAny_tryCatch (wpAny_holding (wpAny_bind (aa X.prog X.w _ _ ?_))))
    show wpAny_bind (wpAny_holding (wpAny_truthy_bool ?_))
    show wpAny_bind (wpAny_letGo (wpAny_pure ?_))
    cases bt with
    |true=>
     have s3:=Heap.SameBut.update s2.heap S (Obj.mapSeq fun _=>#[v,w])
     obtain⟨c2,ad⟩:∃ c2,(s2.heap.update S (Obj.mapSeq fun _=>#[v,w])).get? S=some (seqObj "list" #[v,w] c2):=⟨_,get?_update_seq pS.1 fun _=>#[v,w]⟩
     simp only[if_true]
     show wpAny_bind ?_
     show wpAny_updateSeq pS.1 rfl (wpAny_bind (wpAny_letGo ?_))
     rw[O]
     have I3:Inv X pins σ H2 { s2 with heap:=s2.heap.update S (Obj.mapSeq fun _=>#[v,w]),toks:=s2.toks }:=a4.turnedL (fp:=[S]) (fun b o i e=>(s3.2 b (by simpa using i)).trans e) (fun b i=>by rw[List.mem_singleton.mp i];show a3)
     show wpAny_pure ⟨plainId_quiet PySem.F.plain_min_loop _,ih (j+1) H2 F2 H0 F0 _ x y v w d kd c2 R (by lia) Z I3 (ext.trans N) (N.hh.seqT sq) (rs.mono N.ff) ⟨oI,(s3.2 I a2).trans pI.1,cI,dI⟩ ad ab a3 rx (px.mono N.ff) a5 a6 hm hR⟩
    |false=>
     simp only[Bool.false_eq_true,if_false]
     show wpAny_bind (wpAny_letGo ?_)
     rw[O]
     show wpAny_pure ⟨plainId_quiet PySem.F.plain_min_loop _,ih (j+1) H2 F2 H0 F0 _ xb yb U Y db G c R (by lia) Z a4 (ext.trans N) (N.hh.seqT sq) (rs.mono N.ff) a8 pS.1 ab a3 rb (pb.mono N.ff) ry (py.mono N.ff) hm hR⟩
theorem zf5 (a b v:Value):argsOk "min" ⟨[a,b],[(Str.ofString "key",v)]⟩:=by unfold argsOk;kernel_rfl
set_option maxHeartbeats 8000000 in
theorem yd2 {q:Addr}{mk:D->Option D}(hk:zf9 X (.ref q) mk)(hc:X.calm=true)(hu:X.A.units+64<cLine){xs:List V}{ds:List D}{dm:D}{G O:Hp}{sb:Shared}{E:Value->Shared->Prop}{Q:Value->Shared->Prop}
  {u1 Z:Value} (Ib:Inv X pins σ G sb) (a6:Same O G) (vb:Vals xs [u1,Z]) (a8:Reps X.K O xs ds) (hm:minN mk ds=some dm)
  (hQ:∀ x v F' H' s',Inv X pins σ H' s'->RelV x v->Ext O G F' H'->Rep X.K F' x dm->Q v s'):
  wpAny (model X.prog X.w) X.A (call (.builtin "min") [u1,Z] [(Str.ofString "key",.ref q)]) Q E sb:=by
 have j:(toString "min"++toString ".loop":String)="min.loop":=by decide
 show kmk_tree PySem.F.kind_min PySem.F.plain_min PySem.F.entry_min (zf5 _ _ _) ?_
 show wpAny _ X.A.in1 (Builtin.Builtins.bindParams "min" ["key","default"] 0 ⟨[],[(Str.ofString "key",.ref q)]⟩ >>= _) _ _ sb
 show wpAny_bind (wpAny_of_eq (show Builtin.Builtins.bindParams "min" ["key","default"] 0 ⟨[],[(Str.ofString "key",.ref q)]⟩=pure [some (.ref q),none]from rfl) ?_)
 have ab:xs.length=2:=vb.length
 have ag:G sb.heap.objs.size=none:=Ib.hok.fresh (Nat.le_refl _)
 show wpAny _ X.A.in1 (newTuple [u1,Z] >>= _) _ _ sb
 show wpAny_bind (wpAny_newTuple ?_ (by show 2<=sizeLine;rw[sizeLine_eq];decide))
 have I:Inv X pins σ (upd G sb.heap.objs.size (.tup xs)) { sb with heap:=sb.heap.push (seqObj "tuple" #[u1,Z] 0),toks:=sb.toks }:=Ib.laid (t':=sb.toks) (fun b u e=>Heap.get?_push_of_some _ e) (Nat.le_refl _) ⟨by rw[ab,sizeLine_eq];decide,_,vb,⟨_,Heap.get?_push_size _ rfl,rfl,_,rfl⟩⟩
 have xb:Ext O G (upd O sb.heap.objs.size (.tup xs)) (upd G sb.heap.objs.size (.tup xs)):=Ext.laid a6 ag
 have sf:Same (upd O sb.heap.objs.size (.tup xs)) (upd G sb.heap.objs.size (.tup xs)):=xb.fh
 have sq:SqT X.K (upd G sb.heap.objs.size (.tup xs)) sb.heap.objs.size xs:=SqT.of y3
 have rs:Reps X.K (upd O sb.heap.objs.size (.tup xs)) xs ds:=a8.mono xb.ff
 have hQ:∀ x v F' H' s',Inv X pins σ H' s'->RelV x v->Ext (upd O sb.heap.objs.size (.tup xs)) (upd G sb.heap.objs.size (.tup xs)) F' H'->Rep X.K F' x dm->Q v s':=fun x v F' H' s' a b c d=>hQ x v F' H' s' a b (xb.trans c) d
 generalize upd O sb.heap.objs.size (.tup xs)=F at*
 generalize upd G sb.heap.objs.size (.tup xs)=H at*
 show wpAny _ X.A.in1 (pyIter (.ref sb.heap.objs.size) >>= _) _ _ { sb with heap:=sb.heap.push (seqObj "tuple" #[u1,Z] 0),toks:=sb.toks }
 generalize sb.heap.objs.size=l at*
 generalize ({ sb with heap:=sb.heap.push (seqObj "tuple" #[u1,Z] 0),toks:=sb.toks }:Shared)=s at*
 let⟨its,vr,pl,_⟩:=I.tuple sq
 have a2:=pl
 let⟨ol,ac,_⟩:=id a2
 have a3:l<s.heap.objs.size:=Heap.lt_size ac
 show wpAny_bind (wpAny_pyIter_tuple a2 ?_)
 show wpAny_bind (wpAny_newList ?_ (Nat.zero_le _))
 rw[j]
 show wpAny_pure ⟨plainId_quiet PySem.F.plain_min_loop _,?_⟩
 generalize U:({ cls:=.type "tuple_iterator",data:=.fields #[.ref l,.int 0 0] }:Obj)=oI0
 have hS:(s.heap.push oI0).objs.size=s.heap.objs.size+1:=size_push' ..
 have ae:l≠s.heap.objs.size:=Nat.ne_of_lt a3
 have ad:l≠(s.heap.push oI0).objs.size:=by rw[hS];show Nat.ne_of_lt (Nat.lt_succ_of_lt a3)
 have Y:s.heap.objs.size≠(s.heap.push oI0).objs.size:=by rw[hS];show Nat.ne_of_lt (Nat.lt_succ_self _)
 have gI:((s.heap.push oI0).push (seqObj "list" #[] 0)).get? s.heap.objs.size=some oI0:=Heap.get?_push_of_some _ (Heap.get?_push_size _ (by rw[<-U];rfl))
 have gS:((s.heap.push oI0).push (seqObj "list" #[] 0)).get? (s.heap.push oI0).objs.size=some (seqObj "list" #[] 0):=Heap.get?_push_size _ rfl
 have fI:FpOk X pins H s.heap.objs.size:=I.fpOk (Nat.le_refl _) (I.hok.fresh (Nat.le_refl _))
 have fS:FpOk X pins H (s.heap.push oI0).objs.size:=I.fpOk (by rw[hS];show Nat.le_succ _) (I.hok.fresh (by rw[hS];show Nat.le_succ _))
 have I0:Inv X pins σ H { s with heap:=(s.heap.push oI0).push (seqObj "list" #[] 0),toks:=s.toks }:=I.turnedL (fp:=[]) (fun b o _ e=>Heap.get?_push_of_some _ (Heap.get?_push_of_some _ e)) (fun b N=>by ext N)
 generalize (s.heap.push oI0).objs.size=S at*
 generalize hI:s.heap.objs.size=J at*
 generalize (s.heap.push oI0).push (seqObj "list" #[] 0)=h0 at*
 have af:h0.IsTupleIter J l 0:=⟨_,gI,by rw[<-U],by rw[<-U];rfl⟩
 have zl:its.length=ds.length:=by rw[<-vr.length,rs.length]
 let⟨its',a1,aa,_⟩:=I0.tuple sq
 have al:its'.length=ds.length:=by rw[<-a1.length,rs.length]
 show codeAny_builtin PySem.F.entry_min_loop ?_
 rw[Around.under_plainId PySem.F.plain_min_loop _]
 show wpAny _ X.A.in1 (seqItems? (.ref S) >>= _) _ _ _
 show wpAny_bind (wpAny_seqItems gS rfl ?_)
 show wpAny _ X.A.in1 (tryCatch (pyNext (.ref J)) _ >>= _) _ _ _
 cases ds with
 |nil=>ext hm
 |cons d ds=>
  let⟨x,hx,px⟩:=rs.get (i:=0) (d:=d) rfl
  let⟨v,hv,rx⟩:=a1.get hx
  delta minN at hm
  dsimp only at hm
  cases hkd:mk d with
  |none=>rw[hkd]at hm;ext hm
  |some kd=>
   rw[hkd]at hm
   dsimp only at hm
   show wpAny_bind (wpAny_tryCatch (wpAny_pyNext_tuple_item af aa (by simpa using hv) fun h1 a4 s1=>?_))
   have I1:=I0.turnedL (h':=h1) (t':=s.toks) (fp:=[J]) (fun b o N e=>s1.extBut b o (by simpa using N) e) (fun b N=>by rw[List.mem_singleton.mp N];show fI)
   have ai:h1.get? S=some (seqObj "list" #[] 0):=s1.extBut _ _ (Ne.symm Y) gS
   let⟨oI,eI,cI,dI⟩:=id a4
   have Ip:=I1.pin2 fI fS eI ai (fun v z=>by rw[dI]at z;ext z) (fun v z=>by ext z)
   show wpAny _ X.A.in1 (tryCatch (holding [v] (call (.ref q) [v])) _ >>= _) _ _ _
   show wpAny_bind (wpAny_tryCatch (wpAny_holding (wpAny_mono (hk (pins++[(J,oI),(S,seqObj "list" #[] 0)]) σ H F _ x v d kd Ip sf px rx hkd) (fun w s2 hw=>?_) fun _ _ z=>z.elim)))
   let⟨y,F2,H2,I2,a7,x2,a9⟩:=hw
   have pI:=I2.pin (J,oI) (by simp)
   have pS:=I2.pin (S,seqObj "list" #[] 0) (by simp)
   have ak:Inv X pins σ H2 s2:=I2.unpinned
   have aj:FpOk X pins H2 J:=fI.now pI.2.1
   have a5:FpOk X pins H2 S:=fS.now pS.2.1
   have s3:=Heap.SameBut.update s2.heap S (Obj.mapSeq fun _=>#[v,w])
   obtain⟨c2,ah⟩:∃ c2,(s2.heap.update S (Obj.mapSeq fun _=>#[v,w])).get? S=some (seqObj "list" #[v,w] c2):=⟨_,get?_update_seq pS.1 fun _=>#[v,w]⟩
   show wpAny _ X.A.in1 (updateSeq S (fun _=>#[v,w]) >>= _) _ _ _
   show wpAny_bind (wpAny_updateSeq pS.1 rfl ?_)
   rw[j]
   have I3:Inv X pins σ H2 { s2 with heap:=s2.heap.update S (Obj.mapSeq fun _=>#[v,w]),toks:=s2.toks }:=ak.turnedL (fp:=[S]) (fun b o N e=>(s3.2 b (by simpa using N)).trans e) (fun b N=>by rw[List.mem_singleton.mp N];show a5)
   show wpAny_pure ⟨plainId_quiet PySem.F.plain_min_loop _,yo0 hk hc hu (ds:=d::ds) (dm:=dm) Y ae ad _ 0 H2 F2 H F _ x y v w d kd c2 _ rfl (by simp) I3 x2 (x2.hh.seqT sq) (rs.mono x2.ff) ⟨oI,(s3.2 J Y).trans pI.1,cI,dI⟩ ah aj a5 rx (px.mono x2.ff) a7 a9 hm fun x v F' H' s' a b c d=>hQ x v F' H' s' a b c d⟩
@[irreducible] noncomputable def C8 (mk:D->Option D)(m:ML):ME:=fun ρ=>(m ρ).bind fun ds=>minN mk ds
theorem yp7 {mk:D->Option D}{m:ML}{ρ:Ro}{ds:List D}(h1:m ρ=some ds):C8 mk m ρ=minN mk ds:=by
 delta C8
 rw[h1];rfl
theorem zc4 {q:Addr}{mk:D->Option D}{x:Str}{p pf kp pos:Pos}{e1 e2:Expr}{m:ML}(hk:zf9 X (.ref q) mk)(hc:X.calm=true)(hu:X.A.units+64<cLine)(hg:Gl X "min")(hm:X.mg "min"=none)(U:Gl X x)(N:X.mg x=some (.ref q))(ha:PAs X [e1,e2] m)(hl:∀ ρ ds,m ρ=some ds->ds.length=2)
  (Y:(x==("__debug__":Str))=false:=by decide) (hs:starEach [e1,e2] X.env=(false,eval e1 X.env)::starEach [e2] X.env:=by rfl) (G:(backTo pos (starEach [e2] X.env)).any (·.1)=false:=by rfl):
  PD X (.Call (.Name "min" p) [e1,e2] [⟨some "key",.Name x pf,kp⟩] pos) (C8 mk m):=by
 intro pins s σ H Q I h
 let⟨F0,H0,F,ρ,g,rl,em,q0⟩:=h
 delta C8 at em
 cases h1:m ρ with
 |none=>rw[h1]at em;ext em
 |some ds=>
  rw[h1,Option.bind_some]at em
  show wpAny_Call_Name_kw (U7 I hg hm PyProof.Rows.boot_min ?_ (by decide) (by decide))
  have A:=ha pos pins s σ H (fun vs H1=>∃ F1,Ext F H F1 H1/\Reps X.K F1 vs ds) I ⟨F0,H0,F,ρ,ds,rl,h1,fun vs F1 H1 j r1=>⟨F1,j,r1⟩⟩
  show callWith_kw (thn A fun us s1 i=>?_) (by rw[hs];rfl) (by rw[hs];show ((false,eval e1 X.env)::backTo pos (starEach [e2] X.env)).any (·.1)=false;rw[any_cons,G];rfl)
  let⟨vs,H1,I1,r1,F1,j,Z⟩:=i
  have B:=C0 (nm:=some "key") (kpos:=kp) (ys6 (v:=.ref q) (pos:=pf) U N rfl Y) zc0 pos pins s1 σ H1 (fun vs H2=>vs=[.ref q]/\H2=H1) I1 ⟨rfl,rfl⟩
  show thn B fun a1 s2 i=>?_
  let⟨ws,H2,I2,r2,ev,eH⟩:=i
  subst ev eH
  let⟨w1,rfl,z⟩:=P6 r2
  ext z
  have O:us.length=2:=by rw[<-r1.length,Z.length,hl ρ ds h1]
  match us,O,r1 with
  |[u1,u2],_,r1=>show yd2 hk hc hu I2 j.fh r1 Z em fun x v F' H' s' I' rx x3 px=>⟨x,H',I',rx,q0 x F' H' (j.trans x3) px⟩
end
end
section
inductive RPs (K:W.Frag)(F H:Hp):List Addr->List (List D)->Prop
 |nil:RPs K F H [] []
 |cons {q:Addr} {xs:List V} {ds:List D} {qs:List Addr} {dss:List (List D)}:H q=some (.lst xs)->Reps K F xs ds->RPs K F H qs dss->RPs K F H (q::qs) (ds::dss)
section
variable {K:W.Frag}{F H F' H':Hp}
theorem RPs.mono (e:Same F F')(k:Same H H'):∀{qs:List Addr}{dss:List (List D)},RPs K F H qs dss->RPs K F' H' qs dss
 |_,_,.nil=>.nil
 |_,_,.cons h r t=>.cons (k _ _ h) (r.mono e) (RPs.mono e k t)
theorem RPs.keep (e:Same F F'):∀{qs:List Addr}{dss:List (List D)},(∀ q∈qs,∀ o,H q=some o->H' q=some o)->RPs K F H qs dss->RPs K F' H' qs dss:=by intro a s k r;induction r with|nil=>exact .nil|cons h r t i=>exact .cons (k _ mem_cons_self _ h) (r.mono e) (i fun q b=>k q (mem_cons_of_mem _ b))
theorem RPs.snoc {q:Addr}{xs:List V}{ds:List D}(h:H q=some (.lst xs))(r:Reps K F xs ds):∀{qs:List Addr}{dss:List (List D)},RPs K F H qs dss->RPs K F H (qs++[q]) (dss++[ds])
 |_,_,.nil=>.cons h r .nil
 |_,_,.cons a b t=>.cons a b (RPs.snoc h r t)
theorem RPs.length:∀{qs:List Addr}{dss:List (List D)},RPs K F H qs dss->qs.length=dss.length
 |_,_,.nil=>rfl
 |_,_,.cons _ _ t=>congrArg (·+1) (RPs.length t)
theorem RPs.get:∀{qs:List Addr}{dss:List (List D)}{i:Nat}{ds:List D},RPs K F H qs dss->dss[i]? =some ds->∃ q xs,qs[i]? =some q/\H q=some (.lst xs)/\Reps K F xs ds
 |_,_,_,_,.nil,e=>by simp at e
 |_,_,0,_,.cons a b _,e=>by simp at e;subst e;show⟨_,_,rfl,a,b⟩
 |_,_,i+1,ds,.cons _ _ t,e=>by
  let⟨q,xs,h1,h2⟩:=RPs.get (i:=i) (ds:=ds) t (by simpa using e)
  show⟨q,xs,by simpa using h1,h2⟩
theorem RPs.some:∀{qs:List Addr}{dss:List (List D)},RPs K F H qs dss->∀ q∈qs,∃ o,H q=some o
 |_,_,.cons a _ t,q,i=>by
  rcases List.mem_cons.mp i with e|i
  .rw[e];show⟨_,a⟩
  .exact RPs.some t q i
end
noncomputable abbrev MP:=Ro->Option (List (List D))
structure Pots (K:W.Frag)(H F' H':Hp)(p:Addr)(qs:List Addr)(dss:List (List D)):Prop where
 hp:H p=none
 fp:F' p=none
 at':H' p=some (.lst (qs.map V.ref))
 new:∀ q∈qs,H q=none/\F' q=none
 nd:(p::qs).Nodup
 rep:RPs K F' H' qs dss
noncomputable def TPt (K:W.Frag)(m:MP):TE:=fun σ H Q=>∃ F0 H0 F ρ dss,Rl K F0 H0 F H σ ρ/\m ρ=some dss/\∀ p qs F' H',Ext F H F' H'->Pots K H F' H' p qs dss->Q (.ref p) H'
noncomputable def PP (X:Cx)(e:Expr)(m:MP):Prop:=PE X e (TPt X.K m)
theorem Ext.stays {F H F' H':Hp}{p:Addr}{o:HO}(x:Ext F H F' H')(j:F p=none)(i:H p=some o):F' p=none:=by
 cases q:F' p with
 |none=>rfl
 |some u=>have:=x.new p j (by rw[q];simp);rw[this]at i;ext i
section
variable {X:Cx}{a b c e:Expr}{pos:Pos}
noncomputable def yp9 (m:ML):MP:=fun ρ=>(m ρ).map fun ds=>[ds]
theorem xv8 {m:ML}(ha:PF X a m)(hs:starEach (a::[]) X.env=(false,eval a X.env)::starEach [] X.env:=by rfl):PP X (.List [a] pos) (yp9 m):=(ys5 (j4 ha pa_nil hs)).imp fun σ H Q i=>by
 let⟨F0,H0,F,ρ,dss,O,e,q⟩:=i
 delta yp9 at e
 cases h1:m ρ with
 |none=>rw[h1]at e;ext e
 |some ds=>
  rw[h1]at e;ext e
  show⟨F0,H0,F,ρ,ds,O,h1,fun w xs F1 H1 G hw Y I N=>⟨by show 1<=sizeLine;rw[sizeLine_eq];decide,fun p hp=>?_⟩⟩
  have j:w≠p:=fun z=>by rw[z,hp]at I;ext I
  show q p [w] F1 _ (G.trans (Ext.own G.fh hp)) ⟨G.hh.free hp,G.fh.free hp,y3,fun z U=>?_,?_,.cons (by rw[y4 j];show I) N .nil⟩
  .rw[List.mem_singleton.mp U];show⟨hw,Y⟩
  .simp only[nodup_cons,mem_singleton,not_mem_nil,not_false_eq_true,nodup_nil,and_true]
   show fun z=>j z.symm
noncomputable def K3 (g:Tg)(elt:ML):List D->Ro->List (List D)->Option (List (List D))
 |[],_,acc=>some acc
 |it::its,ρ,acc=>match tgD g it ρ with
  |some ρ1=>(match elt ρ1 with
   |some ds=>if acc.length<sizeLine then K3 g elt its ρ1 (acc++[ds])else none
   |none=>none)
  |none=>none
noncomputable def Q0 (src:List (Option Nat))(mi:ML)(g:Tg)(elt:ML):MP:=fun ρ=>(mi ρ).bind fun its=>K3 g elt its (V2 src ρ) []
theorem yk8 {K:W.Frag}{src:List (Option Nat)}{mi:ML}{g:Tg}{a1:ML}{σ:St}{H:Hp}{Q:VK}(h:TPt K (Q0 src mi g a1) σ H Q):M5 src (TId K mi) (TGd K g) (TC K cyes) (TF K a1) σ H Q:=by
 let⟨F0,H0,F,ρ,out,rl,e,q⟩:=h
 delta Q0 at e
 cases h1:mi ρ with
 |none=>rw[h1]at e;ext e
 |some its=>
  rw[h1]at e
  have e:K3 g a1 its (V2 src ρ) []=some out:=e
  show⟨F0,H0,F,ρ,its,rl,h1,fun J F1 H1 x1 I=>?_⟩
  intro p hp
  let⟨rb,no⟩:=(rl.go x1).blk src
  have af:F1 p=none:=x1.fh.free hp
  show⟨fun i m ab H'=>∃ F' ρ' acc qs,Rl K F1 H1 F' H' ab ρ'/\NoOwn ρ'/\H' p=some (.lst (qs.map V.ref))/\F' p=none/\RPs K F' H' qs acc/\(∀ w∈qs,H1 w=none/\F' w=none)/\(p::qs).Nodup/\i<=its.length/\m=its.length-i/\K3 g a1 (its.drop i) ρ' acc=some out,
   ⟨_,F1,V2 src ρ,[],[],rb.other no hp af,no,y3,af,.nil,(fun w hw=>by ext hw),by simp,Nat.zero_le _,rfl,e⟩,?_⟩
  rintro i m ab H' ⟨F',ρ',acc,qs,j,ai,a3,a9,ra,N,a7,ao,rfl,G⟩
  by_cases a8:i<its.length
  .right
   have hd:=getElem?_eq_getElem a8
   show⟨I.go i F' H' j.ext.ff j.fh a8,fun aa H2=>∃ F2 a2 O Z,Rl K F1 H1 F2 H2 aa a2/\NoOwn a2/\H2 p=some (.lst (Z.map V.ref))/\F2 p=none/\RPs K F2 H2 Z O/\(∀ w∈Z,H1 w=none/\F2 w=none)/\(p::Z).Nodup/\K3 g a1 (its.drop (i+1)) a2 O=some out,?_,fun x H2 y=>?_⟩
   .rintro aa H2 ⟨F2,a2,O,Z,b1,b2,b3,b4,b5,b6,b7,b8⟩
    show⟨its.length-(i+1),by lia,F2,a2,O,Z,b1,b2,b3,b4,b5,b6,b7,a8,rfl,b8⟩
   .let⟨F2,x2,r2⟩:=I.yld i F' H' x H2 _ j.ext.ff j.fh hd y
    rw[g7 hd]at G
    unfold K3 at G
    cases h2:tgD g its[i] ρ' with
    |none=>simp only[h2]at G;ext G
    |some ρ1=>
     simp only[h2]at G
     show⟨F1,H1,F2,ρ',_,ρ1,j.go x2,r2,h2,fun F3 H3 an a4 x3=>?_⟩
     have ac:=ai.tg h2
     have ag:=x2.trans x3
     show⟨F1,H1,F3,ρ1,true,a4,rfl,fun F4 H4 x4=>iteT ?_⟩
     have a5:=ag.trans x4
     cases h4:a1 ρ1 with
     |none=>simp only[h4]at G;ext G
     |some ds=>
      simp only[h4]at G
      split at G
      .rename_i hz
       show⟨F1,H1,F4,ρ1,ds,a4.go x4,h4,fun w xs F5 H5 x5 hw al ak r5=>?_⟩
       have Y:=a5.trans x5
       have am:=Y.hh _ _ a3
       have ad:w≠p:=fun z=>by rw[z,a5.hh _ _ a3]at hw;ext hw
       have ah:RPs K F5 H5 qs acc:=ra.mono Y.ff Y.hh
       have aj:w∉qs:=fun z=>by
        let⟨o,ho⟩:=ra.some w z
        rw[a5.hh _ _ ho]at hw;ext hw
       show⟨qs.map V.ref,am,by rw[length_map,ra.length];show hz,F5,ρ1,acc++[ds],qs++[w],((a4.go x4).go x5).other ac hp (Y.stays a9 a3),ac,by rw[y3,map_append];rfl,Y.stays a9 a3,?_,fun z a6=>?_,?_,G⟩
       .refine((ah.snoc ak r5)).keep (Same.refl _) fun z a6 o ho=>?_
        have:z≠p:=by
         rcases List.mem_append.mp a6 with U|U
         .exact fun zz=>(List.nodup_cons.mp a7).1 (zz ▸ U)
         .rw[List.mem_singleton.mp U];show ad
        rw[y4 this];show ho
       .rcases List.mem_append.mp a6 with U|U
        .let⟨o,ho⟩:=ra.some z U
         show⟨(N z U).1,Y.stays (N z U).2 ho⟩
        .rw[List.mem_singleton.mp U]
         show⟨(a4.go x4).ext.hh.free hw,al⟩
       .have hn:=List.nodup_cons.mp a7
        show List.nodup_cons.mpr ⟨fun z=>?_,List.nodup_append.mpr ⟨hn.2,by simp,fun a ha b hb=>?_⟩⟩
        .rcases List.mem_append.mp z with U|U
         .exact hn.1 U
         .exact ad (List.mem_singleton.mp U).symm
        .rw[List.mem_singleton.mp hb];show fun zz=>aj (zz ▸ ha)
      .cases G
  .left
   have ae:i=its.length:=by lia
   subst ae
   rw[drop_length]at G
   have G:some acc=some out:=G
   ext G
   show⟨I.stop F' H' j.ext.ff j.fh,q p qs F' H' (x1.trans j.ext) ⟨x1.hh.free hp,a9,a3,fun w hw=>⟨x1.hh.free (N w hw).1,(N w hw).2⟩,a7,ra⟩⟩
theorem xv9 {sc:Scope}{N:List Str}{src:List (Option Nat)}{tg i iter:Expr}{z:ML}{g:Tg}{j:ML}(B:Blk X sc N src)(O:X.calm=true)
  (hi:PId X tg iter z) (G:∀ C fp s H,PGd (d4 X sc C N fp s H) tg g) (I:∀ C fp s H,PF (d4 X sc C N fp s H) i j)
  (hs:∀ x,foldedSetIterable iter X.env x=pure x:=by intro _;rfl):
  PP X (.ListComp i [⟨tg,iter,[],0⟩] sc pos) (Q0 src z g j):=(C2 (g:=TGd X.K g) (tc:=TC X.K cyes) (te:=TF X.K j) B O hi (fun C fp s H=>G C fp s H) (fun C fp s H=>W3) (fun C fp s H=>I C fp s H) hs).imp fun _ _ _ h=>yk8 h
end
noncomputable abbrev MFP:=List D->Option (List (List D))
noncomputable def spP (K:W.Frag)(n:Nat)(m:MFP):Sp:=fun vs H Q _=>vs.length=n/\∃ F ds dss,Same F H/\Reps K F vs ds/\m ds=some dss/\∀ p qs F' H',Ext F H F' H'->Pots K H F' H' p qs dss->Q (.ref p) H'
noncomputable def runP (n:Nat)(c:MB)(m1 m2:MP):MFP:=fun ds=>match c (u0 n ds)with
 |some true=>m1 (u0 n ds)
 |some false=>m2 (u0 n ds)
 |none=>none
theorem Fun.okP {P:Program}{w:World}{K:W.Frag}{mg:Str->Option Value}{base:Heap}{x qual:Str}{st:Stmt}{f:Addr}{fd:FuncData}{N ps:List Str}{k:Nat}{c e1 e2:Expr}{p1 p2 Z:Pos}{cc:MB}{m1 m2:MP}(Fn:Fun K x qual st f fd)(Sc:FnScope N ps (z9 st))
  (O:d7 st=[.If c [.Return (some e1) p1] [] p2,.Return (some e2) Z])
  (hc:∀(cdv:Value)(A:Around)(outer:List Env)(s:Shared)(H:Hp)(E:XK),Room k (A.deeper (envOfC qual (z9 st) s.heap.objs.size f cdv))->PC' (cxOf CX0 P w K mg base N qual (z9 st) f cdv A outer s H E).nox c cc)
  (h1:∀(cdv:Value)(A:Around)(outer:List Env)(s:Shared)(H:Hp)(E:XK),Room k (A.deeper (envOfC qual (z9 st) s.heap.objs.size f cdv))->PP (cxOf CX0 P w K mg base N qual (z9 st) f cdv A outer s H E).nox e1 m1)
  (h2:∀(cdv:Value)(A:Around)(outer:List Env)(s:Shared)(H:Hp)(E:XK),Room k (A.deeper (envOfC qual (z9 st) s.heap.objs.size f cdv))->PP (cxOf CX0 P w K mg base N qual (z9 st) f cdv A outer s H E).nox e2 m2):
  FnOk P w K mg base CX0 (k+1) f fd ps (spP K ps.length (runP N.length cc m1 m2)):=by
 show Fn.ok Sc (fun vs H Q E h=>h.1) fun cdv A outer s H vs Q E hr h=>?_
 let⟨hl,F,ds,dss,U,Y,e,ok⟩:=h
 rw[O]
 show⟨_,F6 (yf1 (hc cdv A outer s H E hr) (zv4 (K5 (h1 cdv A outer s H E hr))) pss_nil) (zv4 (K5 (h2 cdv A outer s H E hr))),?_⟩
 have I:=G9 (N:=N) U Y
 delta runP at e
 cases q:cc (u0 N.length ds)with
 |none=>simp only[q]at e;ext e
 |some b=>
  simp only[q]at e
  show⟨F,H,F,u0 N.length ds,b,I,q,fun F1 H1 i=>?_⟩
  cases b with
  |true=>
   show iteT ⟨F,H,F1,_,dss,I.go i,e,fun p qs F2 H2 G pt=>?_⟩
   show ok p qs F2 H2 (i.trans G) ⟨i.hh.free pt.hp,pt.fp,pt.at',fun z j=>⟨i.hh.free (pt.new z j).1,(pt.new z j).2⟩,pt.nd,pt.rep⟩
  |false=>
   show iteF ⟨F,H,F1,_,dss,I.go i,e,fun p qs F2 H2 G pt=>?_⟩
   show ok p qs F2 H2 (i.trans G) ⟨i.hh.free pt.hp,pt.fp,pt.at',fun z j=>⟨i.hh.free (pt.new z j).1,(pt.new z j).2⟩,pt.nd,pt.rep⟩
end
section
noncomputable def Hx (H0 H1:Hp)(A:List Addr):Hp:=fun b=>if b∈A then H1 b else H0 b
theorem ze0 {H0 H1:Hp}{A:List Addr}{b:Addr}(h:b∈A):Hx H0 H1 A b=H1 b:=if_pos h
theorem J9 {H0 H1:Hp}{A:List Addr}{b:Addr}(h:b∉A):Hx H0 H1 A b=H0 b:=if_neg h
theorem Ext.less {F0 H0 H0' F H:Hp}(s:Same H0 H0')(x:Ext F0 H0' F H):Ext F0 H0 F H:=⟨x.ff,s.trans x.hh,x.fh,fun b e n=>s.free (x.new b e n),x.nf⟩
section
variable {K:W.Frag}{F0 H0 H0' F H:Hp}{σ:St}{ρ:Ro}
theorem Rl.less (s:Same H0 H0')(r:Rl K F0 H0' F H σ ρ):Rl K F0 H0 F H σ ρ where
 ext:=r.ext.less s
 len:=r.len
 sh:=r.sh
 own:=fun i ds h=>let ⟨p,xs,a,b,c,d,z⟩:=r.own i ds h;⟨p,xs,a,b,c,d,s.free z⟩
 inj:=r.inj
 ob:=fun i p ds h=>let ⟨a,b,c,d⟩:=r.ob i p ds h;⟨a,b,s.free c,d⟩
 obn:=r.obn
 ob1:=r.ob1
theorem okO.less {G:Hp}{I:Ends}(s:Same H0 H0'):∀{o:Out},okO K F0 H0 G I o->okO K F0 H0' G I o
 | .nx _,h=>fun F H σ z q=>h F H σ (z.less s) q
 | .bk _,h=>fun F H σ z q=>h F H σ (z.less s) q
 | .ct _,h=>fun F H σ z q=>h F H σ (z.less s) q
 | .rt _,h=>fun v F H x r=>h v F H (x.less s) r
 | .rf _,h=>fun p xs F H x a b c d=>h p xs F H (x.less s) (s.free a) b c d
 | .rp _ _,h=>fun t v p xs F H x a b c d e f g i j=>h t v p xs F H (x.less s) (s.free a) (s.free b) c d e f g i j
 | .rg _ _ _,h=>fun v F H xs x a b c d=>h v F H xs (x.less s) a b c d
 | .rgf _ _ _,h=>fun q ys F H xs x a b c d e f g i=>h q ys F H xs (x.less s) (s.free a) b c d e f g i
end
section
variable {X:Cx}{a b c e:Expr}{pos:Pos}{st:Stmt}
variable {E:XK}{es:List Expr}{m:ML}
noncomputable def zb6 (f:MFP)(m:ML):MP:=fun ρ=>(m ρ).bind f
theorem xu0 {n:Nat}{mf:MFP}(h:∀ t,PA X es t->PE X e (zk3 (spP X.K n mf) [] E t))(O:es.length=n)(ha:PAs X es m)(hm:∀ ρ ds,m ρ=some ds->ds.length=es.length):PP X e (zb6 mf m):=(h _ ha).imp fun σ H Q i=>by
 let⟨F0,H0,F,ρ,d,N,e,q⟩:=i
 delta zb6 at e
 cases h1:m ρ with
 |none=>rw[h1]at e;ext e
 |some ds=>
  rw[h1]at e
  show⟨F0,H0,F,ρ,ds,N,h1,fun vs F1 H1 j r1=>?_⟩
  show spP X.K n mf (vs++[]) H1 Q E
  rw[append_nil]
  show⟨by rw[r1.length,hm ρ ds h1,O],F1,ds,d,j.fh,r1,e,fun p qs F2 H2 I pt=>?_⟩
  show q p qs F2 H2 (j.trans I) ⟨j.hh.free pt.hp,pt.fp,pt.at',fun z G=>⟨j.hh.free (pt.new z G).1,(pt.new z G).2⟩,pt.nd,pt.rep⟩
theorem xd8 {t:TE}{i:Nat}{na:MEm}(h:PS X st (tAsg t (X3 i)))(I:∀ σ H Q,TDm X.K na σ H Q->t σ H Q):PSd X st (Z6 i na):=h.imp fun D σ H j=>by
 let⟨F0,H0,F,ρ,o,G,e,ok⟩:=j
 delta Z6 at e
 split at e
 .rename_i d ρ1 h1
  ext e
  show I _ _ _ ⟨F0,H0,F,ρ,d,ρ1,G,h1,fun v F1 H1 z s1 r1=>ok F1 H1 _ (z.set r1) s1⟩
 .cases e
theorem yy9 {k i j:Nat}{src:List (Option Nat)}{G:ML}{I:MEm}(z:src[j]? =some (some i))(N:j≠0)(h:PS X st (tAsg (M5 src (TId X.K G) (X3 0) tYes (TDm X.K I)) (X3 k))):PSd X st (Z6 k (R9 src G i j I)):=xd8 h fun _ _ _ q=>yj0 z N q
end
end
section
section
variable {K:W.Frag}{F0 H0 F H:Hp}{σ:St}{ρ:Ro}
theorem Rl.freezeQ (r:Rl K F0 H0 F H σ ρ){i:Nat}{ds:List D}(h:ρ[i]? =some (some (.own ds))):∃ p xs,F p=none/\Reps K F xs ds/\Rl K F0 H0 (upd F p (.lst xs)) H σ (ρ.set i (some (.sh (.lst ds)))):=by
 let⟨p,xs,a,b,c,d,z⟩:=r.own i ds h
 have I:i<ρ.length:=(List.getElem?_eq_some_iff.mp h).1
 have e:Ext F0 H0 (upd F p (.lst xs)) H:=r.ext.freeze b z c
 have ff:Same F (upd F p (.lst xs)):=(Same.refl F).put b
 show⟨p,xs,b,d,⟨e,by simp[r.len],fun j d' q=>?_,fun j es q=>?_,fun j k q es G U e1 e2 e3 e4=>?_,fun j q es e1=>?_,fun j k q es G e1 e2 e3=>?_,fun j k q q' es G e1 e2=>r.ob1 j k q q' es G (t6 e1).2 (t6 e2).2⟩⟩
 .by_cases hj:i=j
  .subst hj
   rw[getElem?_set_self I]at q
   ext q
   show⟨_,a,.lst (SqL.of y3) (d.mono ff)⟩
  .rw[getElem?_set_ne hj]at q
   let⟨v,v1,v2⟩:=r.sh j d' q
   show⟨v,v1,v2.mono ff⟩
 .by_cases hj:i=j
  .subst hj
   rw[getElem?_set_self I]at q
   ext q
  .rw[getElem?_set_ne hj]at q
   let⟨Y,N,Z,b',c',d',z'⟩:=r.own j es q
   have hp:Y≠p:=fun w=>r.inj i j p ds es hj h q a (by rw[<-w];show Z)
   show⟨Y,N,Z,by rw[y4 hp];show b',c',d'.mono ff,z'⟩
 .have n1:i≠j:=fun w=>by subst w;rw[getElem?_set_self I]at e1;ext e1
  have O:i≠k:=fun w=>by subst w;rw[getElem?_set_self I]at e2;ext e2
  rw[getElem?_set_ne n1]at e1
  rw[getElem?_set_ne O]at e2
  show r.inj j k q es G U e1 e2 e3 e4
 .let⟨n,e1⟩:=t6 e1
  let⟨o1,o2,o3,zs,o4,o5⟩:=r.ob j q es e1
  have hp:q≠p:=fun w=>r.obn j i q es ds e1 h (by rw[w];show a)
  show⟨o1,by rw[y4 hp];show o2,o3,zs,o4,o5.mono ff⟩
 .let⟨n,e1⟩:=t6 e1
  have O:i≠k:=fun w=>by subst w;rw[getElem?_set_self I]at e2;ext e2
  rw[getElem?_set_ne O]at e2
  show r.obn j k q es G e1 e2 e3
end
noncomputable def hasL:List D->Bool
 |[]=>false
 | .lst _::_=>true
 |_::r=>hasL r
theorem ym4 {K:W.Frag}{F:Hp}:∀{xs:List V}{ds es:List D},hasL ds=true->X8 es=true->Reps K F xs ds->Reps K F xs es->False
 |_,[],_,h,_,_,_=>by ext h
 |_,d::ds,[],h,_,.cons _ _,r=>by ext r
 |_,d::ds,e::es,h,h2,.cons a r,.cons b r2=>by
  cases e with
  |int k=>
   ext b
   ext a
   show ym4 (show hasL ds=true from h) (show X8 es=true from h2) r r2
  |_=>ext h2
noncomputable def yh7 (ds:List D):D->Bool
 | .lst es=>X8 es&&hasL ds
 |_=>false
@[irreducible] noncomputable def zh0 (i:Nat)(m:ME):ME:=fun ρ=>match ρ[i]? with
 |some (some (.own ds))=>(match m (ρ.set i (some (.sh (.lst ds))))with |some d=>if yh7 ds d=true then some d else none|none=>none)
 |_=>m ρ
theorem yu2 {K:W.Frag}{F:Hp}{p:Addr}{xs:List V}{ds:List D}{v:V}{d:D}(hp:F p=some (.lst xs))(G:Reps K F xs ds)(h:yh7 ds d=true)(r:Rep K F v d):Rep K (fun b=>if b=p then none else F b) v d:=by
 cases r with
 |lst i j=>
  rename_i a ys es
  have h:(X8 es&&hasL ds)=true:=h
  rw[Bool.and_eq_true]at h
  show .lst ?_ (V5 h.1 j)
  rcases i with (i|⟨o,i⟩)|i
  .have hne:a≠p:=fun z=>by
    rw[z,hp]at i;ext i
    show ym4 h.2 h.1 G j
   show .inl (.inl (by show (if a=p then none else F a)=_;rw[if_neg hne];show i))
  .have hne:a≠p:=fun z=>by rw[z,hp]at i;ext i
   show .inl (.inr ⟨o,by show (if a=p then none else F a)=_;rw[if_neg hne];show i⟩)
  .exact .inr i
 |_=>ext h
theorem yr5 {X:Cx}{e:Expr}{m:ME}(i:Nat)(h:PD X e m):PD X e (zh0 i m):=h.imp fun σ H Q I=>by
 let⟨F0,H0,F,ρ,d,U,e,q⟩:=I
 delta zh0 at e
 split at e
 .rename_i ds h1
  let⟨p,xs,hp,Y,N⟩:=U.freezeQ h1
  split at e
  .rename_i d' h2
   split at e
   .rename_i hs
    ext e
    show⟨F0,H0,_,_,d,N,h2,fun v F2 H2 G r2=>?_⟩
    have O:F2 p=some (.lst xs):=G.ff _ _ y3
    show q v (fun b=>if b=p then none else F2 b) H2 ⟨fun b o j=>?_,G.hh,fun b o j=>?_,fun b j hn=>?_,fun b o u z=>by
     have z:(if b=p then none else F2 b)=some (.frz o u):=z
     split at z
     .cases z
     .rename_i hne
      have:=G.nf b o u z
      rwa [y4 hne]at this⟩ (yu2 O (Y.mono (((Same.refl F).put hp).trans G.ff)) hs r2)
    .have hne:b≠p:=fun w=>by rw[w,hp]at j;ext j
     show (if b=p then none else F2 b)=some o
     rw[if_neg hne]
     show G.ff b o (by rw[y4 hne];show j)
    .have j:(if b=p then none else F2 b)=some o:=j
     split at j
     .cases j
     .exact G.fh b o j
    .have hn:(if b=p then none else F2 b)≠none:=hn
     split at hn
     .exact absurd rfl hn
     .rename_i hne
      show G.new b (by rw[y4 hne];show j) hn
   .cases e
  .cases e
 .exact⟨F0,H0,F,ρ,d,U,e,q⟩
end
section
section
variable {X:Cx}{a b:Expr}{ma mb:ME}{pos:Pos}
end
noncomputable def idxI (k:Int):List Int->Option Nat
 |[]=>none
 |n::r=>if n=k then some 0 else (idxI k r).map (·+1)
theorem zo2 {k:Int}:∀{ns:List Int}{j:Nat},idxI k ns=some j->ns[j]? =some k/\∀ m,m<j->ns[m]? ≠some k
 |[],_,h=>by ext h
 |n::r,j,h=>by
  unfold idxI at h
  split at h
  .rename_i e
   ext h;show⟨by rw[e];rfl,fun m hm=>absurd hm (Nat.not_lt_zero _)⟩
  .rename_i e
   cases h1:idxI k r with
   |none=>rw[h1]at h;ext h
   |some i=>
    rw[h1]at h;ext h
    let⟨I,G⟩:=zo2 h1
    show⟨I,fun m hm=>?_⟩
    cases m with
    |zero=>intro z;show e (Option.some.inj z)
    |succ m=>show G m (Nat.lt_of_succ_lt_succ hm)
section
variable {X:Cx}{a b:Expr}
noncomputable def xj4 (K:W.Frag):V->List V->Hp->VK->Prop:=fun x vs H Q=>∃ l ns k j,x= .ref l/\vs=[.int k]/\SqL K H l (ns.map V.int)/\ns.length<=1000/\idxI k ns=some j/\Q (.int (j:Int)) H
theorem zt1:∀{vs:List Value}{ns:List Int},IntsAre vs ns->∀{m:Nat}{n:Int},ns[m]? =some n->∃ t,vs[m]? =some (.int n t)
 |_,_,.nil,m,n,h=>by simp at h
 |_,_,.cons a t r,0,n,h=>by simp at h;subst h;show⟨_,rfl⟩
 |_,_,.cons a t r,m+1,n,h=>by
  let⟨u,e⟩:=zt1 r (m:=m) (n:=n) (by simpa using h)
  show⟨u,by simpa using e⟩
open PySem.SeqAt in
theorem yq8:MtR X "list.index" (xj4 X.K):=by
 intro pins s σ H x vs v us Q I rx rv h
 let⟨l,ns,k,j,rfl,rfl,hl,hz,hj,q⟩:=h
 ext rx
 let⟨u,rfl,ru⟩:=rv.one
 let⟨tk,rfl⟩:=ru
 let⟨its,r,⟨⟨cl,dd,dt,sl⟩,n,e,hc,G,hd⟩,z⟩:=I.list hl
 simp only at hc hd G
 subst hc hd G
 have hi:=B7 r
 have O:its.length=ns.length:=by rw[<-r.length,length_map]
 let⟨h1,h2⟩:=zo2 hj
 have Z:j<ns.length:=(List.getElem?_eq_some_iff.mp h1).1
 show call_meets F.slot_list_index ⟨_,e,rfl⟩ F.entry_list_index (F.args_list_index_2 _ _) (list_indexAt l its.toArray n none sl (.int k tk) (fun y=>numOf y==k) j (by simpa[O]using Z) (by lia) ?_ ?_) ⟨e,?_,?_⟩
 .let⟨t,i⟩:=zt1 hi h1
  have a1:j<its.length:=by lia
  rw[getElem?_eq_getElem a1]at i
  have i:=Option.some.inj i
  simp[i,numOf]
 .intro m hm hmj
  have N:m<ns.length:=by lia
  let⟨t,i⟩:=zt1 hi (getElem?_eq_getElem N)
  have Y:m<its.length:=by lia
  rw[getElem?_eq_getElem Y]at i
  have i:=Option.some.inj i
  have U:ns[m]≠k:=fun zz=>h2 m hmj (by rw[getElem?_eq_getElem N,zz])
  simp[i,numOf,U]
 .intro y hy
  let⟨n',t',rfl⟩:=hi.all y (by simpa using hy)
  show EqAt.int_int (A:=X.A.in1) (s:=s) n' t' k tk
 .exact⟨.int j,H,I.tok _,⟨_,rfl⟩,q⟩
@[irreducible] noncomputable def yx9 (m:ML)(x:ME):ME:=fun ρ=>match m ρ,x ρ with
 |some ds,some (.int k)=>(match O2 ds with |some ns=>if ns.length<=1000 then (idxI k ns).map fun j=>.int (j:Int)else none|none=>none)
 |_,_=>none
theorem yr4 {m:ML}{x:ME}{apos cpos:Pos}(Y:PB X a m)(O:PD X b x)
  (U:∀ t,PA X [b] t->PE X (.Call (.Attribute a "index" apos) [b] [] cpos) (tBM X.K "list" (xj4 X.K) (TB X.K m) t)) (hs:starEach (b::[]) X.env=(false,eval b X.env)::starEach [] X.env:=by rfl):PD X (.Call (.Attribute a "index" apos) [b] [] cpos) (yx9 m x):=
 (U _ (j4 O pa_nil hs)).imp fun σ H Q i=>by
  let⟨F0,H0,F,ρ,g,I,e,q⟩:=i
  delta yx9 at e
  split at e
  .rename_i ds k h1 h0
   split at e
   .rename_i ns h2
    split at e
    .rename_i hz
     cases h3:idxI k ns with
     |none=>rw[h3]at e;ext e
     |some j=>
      rw[h3]at e;ext e
      show⟨F0,H0,F,ρ,_,I,h1,fun p xs F1 H1 G s1 r1=>?_⟩
      have N:=Q9 r1 h2
      subst N
      show⟨.inl ⟨rfl,_,s1⟩,F0,H0,F1,ρ,_,I.go G,h0,fun v F2 H2 z r2=>?_⟩
      ext r2
      show⟨p,ns,k,j,rfl,rfl,z.hh.seq s1,hz,h3,q _ F2 H2 (G.trans z) (.int _)⟩
    .cases e
   .cases e
  .cases e
end
end
section
noncomputable def zn7 (src:List (Option Nat))(ρ:Ro):Ro:=src.map fun o=>o.bind fun i=>match ρ[i]? with |some (some (.sh d))=>some (.sh d)|some (some (.own ds))=>some (.own ds)|some (some (.ob _ ds))=>some (.own ds)|none=>none|some none=>none
@[irreducible] noncomputable def B0 (src:List (Option Nat))(mi:ML)(g:Tg)(c:MB)(elt:ME):ML:=fun ρ=>(mi ρ).bind fun its=>Y1 g c elt its (zn7 src ρ) []
theorem O7 {src:List (Option Nat)}{ρ:Ro}{i:Nat}{x:S}(e:(zn7 src ρ)[i]? =some (some x)):∃ k,src[i]? =some (some k)/\nob (some x)/\(ρ[k]? =some (some x)\/∃ q ds,ρ[k]? =some (some (.ob q ds))/\x= .own ds):=by
 delta zn7 at e
 rw[getElem?_map]at e
 cases h:src[i]? with
 |none=>rw[h]at e;ext e
 |some o=>
  rw[h]at e
  cases o with
  |none=>ext e
  |some k=>
   simp only[Option.map_some,Option.bind_some]at e
   split at e
   .rename_i d h';ext e;show⟨k,rfl,True.intro,.inl h'⟩
   .rename_i ds h';ext e;show⟨k,rfl,True.intro,.inl h'⟩
   .rename_i q ds h';ext e;show⟨k,rfl,True.intro,.inr ⟨q,ds,h',rfl⟩⟩
   .cases e
   .cases e
theorem Rl.anyOwn {K:W.Frag}{F0 H0 F H:Hp}{σ:St}{ρ:Ro}(r:Rl K F0 H0 F H σ ρ){k:Nat}{ds:List D}(h:ρ[k]? =some (some (.own ds))\/∃ q es,ρ[k]? =some (some (.ob q es))/\S.own ds= .own es):∃ p xs,σ[k]? =some (some (.ref p))/\F p=none/\H p=some (.lst xs)/\Reps K F xs ds:=by
 rcases h with h|⟨q,es,h,e⟩
 .let⟨p,xs,a,b,c,d,_⟩:=r.own k ds h
  show⟨p,xs,a,b,c,d⟩
 .cases e
  let⟨a,b,_,xs,c,d⟩:=r.ob k q ds h
  show⟨q,xs,a,b,c,d⟩
theorem Rl.blkB {K:W.Frag}{F0 H0 F H:Hp}{σ:St}{ρ:Ro}(r:Rl K F0 H0 F H σ ρ){src:List (Option Nat)}(ok:zk4 src){p:Addr}(hp:H p=none):Rl K F (upd F p (.lst [])) F (upd H p (.lst [])) (blk0 src σ) (zn7 src ρ):=by
 have hF:F p=none:=r.fh.free hp
 show⟨⟨Same.refl F,r.fh.put2,r.fh.put hF,fun b e n=>absurd e n,fun _ _ _ z=>z⟩,by delta blk0 zn7;simp,fun i d e=>?_,fun i ds e=>?_,fun i j q ds es Z e1 e2 s1 s2=>?_,fun i q ds e=>?_,fun i j q ds es e=>?_,fun i j q q' ds es e=>?_⟩
 .let⟨k,h1,_,h2⟩:=O7 e
  rcases h2 with h2|⟨_,_,_,z⟩
  .let⟨v,a,b⟩:=r.sh k d h2
   show⟨v,O8 h1 a,b⟩
  .cases z
 .let⟨k,h1,_,h2⟩:=O7 e
  let⟨q,xs,a,b,c,d⟩:=r.anyOwn h2
  have hq:q≠p:=fun w=>by rw[w,hp]at c;ext c
  show⟨q,xs,O8 h1 a,b,by rw[y4 hq];show c,d,by rw[y4 hq];show b⟩
 .let⟨k,h1,_,h2⟩:=O7 e1
  let⟨l,h3,_,G⟩:=O7 e2
  have I:k≠l:=fun w=>by subst w;show Z (ok i j k h1 h3)
  have U:=M4 h1 s1
  have O:=M4 h3 s2
  rcases h2 with h2|⟨q1,d1,h2,_⟩
  .rcases G with G|⟨Y,N,G,_⟩
   .exact r.inj k l q ds es I h2 G U O
   .let⟨a,_⟩:=r.ob l Y N G
    rw[a]at O;ext O
    show r.obn l k q N ds G h2 U
  .let⟨a,_⟩:=r.ob k q1 d1 h2
   rw[a]at U;ext U
   rcases G with G|⟨Y,N,G,_⟩
   .exact r.obn k l q d1 es h2 G O
   .exact I (r.ob1 k l q Y d1 N h2 G)
 .let⟨k,h1,n,_⟩:=O7 e;show n.elim
 .let⟨k,h1,n,_⟩:=O7 e;show n.elim
 .let⟨k,h1,n,_⟩:=O7 e;show n.elim
theorem yb8 {K:W.Frag}{src:List (Option Nat)}{z:ML}{g:Tg}{c:MB}{i:ME}(so:zk4 src){σ:St}{H:Hp}{Q:VK}(h:TF K (B0 src z g c i) σ H Q):M5 src (TId K z) (TGd K g) (TC K c) (TD K i) σ H Q:=by
 let⟨F0,H0,F,ρ,out,O,e,q⟩:=h
 delta B0 at e
 cases h1:z ρ with
 |none=>rw[h1]at e;ext e
 |some its=>
  rw[h1]at e
  show⟨F0,H0,F,ρ,its,O,h1,fun J F1 H1 j I p hp=>?_⟩
  show zz0 j.fh hp ((O.go j).blkB so hp) I e fun xs F' H' xe N G U=>q p xs F' H' (j.trans xe) (j.hh.free hp) N G U
section
variable {X:Cx}{a b c e o:Expr}{ma mb mo:ME}{pos:Pos}{st:Stmt}
theorem F9 {sc:Scope}{N:List Str}{src:List (Option Nat)}{tg j iter:Expr}{i:List Expr}{G:ML}{g:Tg}{cc:MB}{z:ME}(so:zk4 src)(B:Blk X sc N src)(Y:X.calm=true)
  (hi:PId X tg iter G) (O:∀ C fp s H,PGd (d4 X sc C N fp s H) tg g) (I:∀ C fp s H,PTsd (d4 X sc C N fp s H) i cc) (U:∀ C fp s H,PD (d4 X sc C N fp s H) j z)
  (hs:∀ x,foldedSetIterable iter X.env x=pure x:=by intro _;rfl):
  PF X (.ListComp j [⟨tg,iter,i,0⟩] sc pos) (B0 src G g cc z):=(C2 (g:=TGd X.K g) (tc:=TC X.K cc) (te:=TD X.K z) B Y hi (fun C fp s H=>O C fp s H) (fun C fp s H=>I C fp s H) (fun C fp s H=>U C fp s H) hs).imp fun _ _ _ h=>yb8 so h
end
open Classical in
noncomputable def A5 (i:Nat)(q:Addr)(ds:List D)(g:Tg)(body:MS):List D->MS
 |[],ρ=>if ρ[i]? =some (some (.ob q ds))then some (.nx ρ)else none
 |d::r,ρ=>if ρ[i]? =some (some (.ob q ds))then (match tgD g d ρ with
  |some ρ1=>(match body ρ1 with
   |some (.nx ρ2)=>A5 i q ds g body r ρ2
   |some (.ct ρ2)=>A5 i q ds g body r ρ2
   |some (.bk ρ2)=>some (.nx ρ2)
   |o=>o)
  |none=>none)else none
noncomputable def zp1 (i:Nat)(g:Tg)(body:MS):MS:=fun ρ=>match ρ[i]? with
 |some (some (.ob q ds))=>if X8 ds=true then A5 i q ds g body (X5 0 ds) ρ else none
 |_=>none
theorem ye5 {K:W.Frag}{F F':Hp}{xs:List V}{ds:List D}{k:Nat}{u:V}(h:X8 ds=true)(r:Reps K F xs ds)(e:xs[k]? =some u):∃ d,ds[k]? =some d/\Rep K F' u d:=(V5 (F':=F') h r).get' e
section
variable {X:Cx}{pos:Pos}
theorem yt9 {i:Nat}{x:Str}{px p:Pos}{es:List Expr}{tk:Nat}{tp cpos:Pos}{body:List Stmt}{g:Tg}{mb:MS}(hp:PassesOwn (model X.prog X.w) X.A X.env X.xe)(hc:X.calm=true)(ad:Gl X "enumerate")(ac:X.mg "enumerate"=none)(hv:PE X (.Name x px) (tVar i))(hg:PGd X (.Tuple es tk tp) g)(hb:PSsd X body mb)
  (a6:starEach [.Name x px] X.env=[(false,eval (.Name x px) X.env)]:=by rfl) (hs:∀ v,foldedSetIterable (.Call (.Name "enumerate" p) [.Name x px] [] cpos) X.env v=pure v:=by intro _;rfl):
  PSd X (.For (.Tuple es tk tp) (.Call (.Name "enumerate" p) [.Name x px] [] cpos) body [] pos) (zp1 i g mb):=(zd9 hp hc (zj5 ad ac (j4 hv pa_nil (by rw[a6];rfl)) a6) hg hb hs).imp fun Dn σ H a7=>by
 let⟨F0,H0,F,ρ,o,rl,e,ok⟩:=a7
 delta zp1 at e
 split at e
 .rename_i q ds h1
  split at e
  .rename_i hn
   let⟨a1,a2,a3,xs,a4,a5⟩:=rl.ob i q ds h1
   show⟨_,a1,q,xs,rfl,SqL.of a4,?_⟩
   have hl:(X5 0 ds).length=ds.length:=W5 0 ds
   show⟨fun k m Y H'=>∃ F' ρ',Rl X.K F0 H0 F' H' Y ρ'/\Same F F'/\k<=ds.length/\m=ds.length-k/\A5 i q ds g mb ((X5 0 ds).drop k) ρ'=some o,⟨_,F,ρ,rl,Same.refl _,Nat.zero_le _,rfl,e⟩,?_⟩
   rintro k m Y H' ⟨F',ρ',N,sf,hk,rfl,j⟩
   by_cases a8:k<ds.length
   .right
    have hd:(X5 0 ds)[k]? =some ((X5 0 ds)[k]'(by lia)):=getElem?_eq_getElem (by lia)
    rw[g7 hd]at j
    unfold A5 at j
    split at j
    .rename_i hun
     let⟨b1,b2,b3,ys,b4,b5⟩:=N.ob i q ds hun
     let⟨v,ab,_⟩:=b5.get (getElem?_eq_getElem a8)
     show⟨⟨ys,v,SqL.of b4,ab⟩,fun Z H2=>∃ F2 G,Rl X.K F0 H0 F2 H2 Z G/\Same F F2/\A5 i q ds g mb ((X5 0 ds).drop (k+1)) G=some o,?_,fun z H2 y=>?_⟩
     .rintro Z H2 ⟨F2,G,c1,c2,c3⟩
      show⟨ds.length-(k+1),by lia,F2,G,c1,c2,a8,rfl,c3⟩
     .let⟨t,u,rfl,ht,rfl,y1⟩:=y
      have y1:=y1 ys (SqL.of b4)
      let⟨d1,e1,r1⟩:=ye5 (F':=upd F' t (.tup [.int k,u])) hn b5 y1
      have x2:Ext F' H' (upd F' t (.tup [.int k,u])) (upd H' t (.tup [.int k,u])):=Ext.laid N.fh ht
      have O:(X5 0 ds)[k]'(by lia)= .tup [.int ((0+k:Nat):Int),d1]:=by
       have:=A9 0 ds k d1 e1
       rw[hd]at this
       show Option.some.inj this
      rw[Nat.zero_add]at O
      have rr:Rep X.K (upd F' t (.tup [.int k,u])) (.ref t) ((X5 0 ds)[k]'(by lia)):=by
       rw[O]
       show .tup (SqT.of y3) (.cons (.int _) (.cons r1 .nil))
      cases h2:tgD g ((X5 0 ds)[k]'(by lia)) ρ' with
      |none=>simp only[h2]at j;ext j
      |some ρ1=>
       simp only[h2]at j
       show⟨F0,H0,_,ρ',_,ρ1,N.go x2,rr,h2,fun F3 H3 ae aa x3=>?_⟩
       have s3:Same F F3:=(sf.trans x2.ff).trans x3.ff
       cases h3:mb ρ1 with
       |none=>simp only[h3]at j;ext j
       |some o1=>
        simp only[h3]at j
        show⟨F0,H0,F3,ρ1,o1,aa,h3,?_⟩
        cases o1 with
        |nx G=>show fun F4 H4 U I s4=>⟨F4,G,I,s3.trans s4,j⟩
        |ct G=>show fun F4 H4 U I s4=>⟨F4,G,I,s3.trans s4,j⟩
        |bk G=>
         ext j
         show fun F4 H4 U I s4=>ok F4 H4 U I (s3.trans s4)
        |rt d=>ext j;show ok
        |rf d=>ext j;show ok
        |rp d ds=>ext j;show ok
        |rg d p r=>ext j;show ok
        |rgf d p r=>ext j;show ok
    .cases j
   .left
    have a9:k=ds.length:=by lia
    subst a9
    rw[show (X5 0 ds).drop ds.length=[]by rw[<-hl,drop_length]]at j
    unfold A5 at j
    split at j
    .rename_i hun
     ext j
     let⟨b1,b2,b3,ys,b4,b5⟩:=N.ob i q ds hun
     show⟨⟨ys,SqL.of b4,by rw[b5.length];show Nat.le_refl _⟩,ok F' H' Y N sf⟩
    .cases j
  .cases e
 .cases e
end
end
section
section
variable {X:Cx}{st:Stmt}
end
end
section
inductive Fl where
 |v (d:D)|l (ds:List D)
inductive Cell where
 |ins (c:Str) (ns:List Str) (fs:List Fl)
 |row (fs:List Fl)
 |tb (P:Addr) (mw:Str) (pos:Pos) (q:Str)
noncomputable def xb3 (c:Addr)(q:Str):Heap->Prop:=fun h=>h.CodeRec (.ref c) q
structure CodeT (K:W.Frag)(cdv:Value)(P:Addr):Prop where
 hd:∃ c,cdv= .ref c/\∀ h:Heap,K.In h->W.CodeHd h c P
 ne:mainGlobals≠P
noncomputable def TabF (K:W.Frag)(mw:Str)(P:Addr):Prop:=∃ f oc od fd sl,W.nsIn K mainGlobals mw=some (some (.ref f))/\K.lookup f=some ⟨oc,od,.func fd,sl⟩/\CodeT K fd.code P
noncomputable abbrev Bx:=List (Addr×Cell)
inductive FlR (K:W.Frag)(F B:Hp):List Addr->List V->List Fl->Prop
 |nil:FlR K F B [] [] []
 |v {fp:List Addr} {x:V} {d:D} {xs:List V} {fs:List Fl}:Rep K F x d->FlR K F B fp xs fs->FlR K F B fp (x::xs) (.v d::fs)
 |l {fp:List Addr} {q:Addr} {ys:List V} {ds:List D} {xs:List V} {fs:List Fl}:B q=some (.lst ys)->Reps K F ys ds->FlR K F B fp xs fs->FlR K F B (q::fp) (.ref q::xs) (.l ds::fs)
inductive CellR (K:W.Frag)(F B:Hp):List Addr->Addr->Cell->Prop
 |ins {fp:List Addr} {p dx C:Addr} {c:Str} {ns:List Str} {xs:List V} {fs:List Fl}:W.nsIn K mainGlobals c=some (some (.ref C))->ns.length=xs.length->B p=some (.ins C dx (ns.zip xs))->B dx=some (.own p)->FlR K F B fp xs fs->
   CellR K F B (p::dx::fp) p (.ins c ns fs)
 |row {fp:List Addr} {p:Addr} {xs:List V} {fs:List Fl}:B p=some (.lst xs)->FlR K F B fp xs fs->CellR K F B (p::fp) p (.row fs)
 |tb {P:Addr} {mw:Str} {pos:Pos} {q:Str} {ps:Array Value}:TabF K mw P->B P=some (.tbl ps)->TriplesOk ps.toList->(codeAmong pos ps.toList=none\/∃ c,codeAmong pos ps.toList=some (.ref c)/\F c=some (.ext (xb3 c q)))->CellR K F B [P] P (.tb P mw pos q)
inductive BxR (K:W.Frag)(F B:Hp):List Addr->Bx->Prop
 |nil:BxR K F B [] []
 |cons {fp fq:List Addr} {p:Addr} {c:Cell} {β:Bx}:CellR K F B fp p c->BxR K F B fq β->BxR K F B (fp++fq) ((p,c)::β)
section
variable {K:W.Frag}{F F' B B':Hp}
theorem FlR.mono (e:Same F F'){fp:List Addr}{xs:List V}{fs:List Fl}(h:FlR K F B fp xs fs)(k:∀ a∈fp,B' a=B a):FlR K F' B' fp xs fs:=by
 induction h with
 |nil=>show .nil
 |v r _ i=>show .v (r.mono e) (i k)
 |l b r _ i=>show .l (by rw[k _ (by simp)];show b) (r.mono e) (i fun a ha=>k a (mem_cons_of_mem _ ha))
theorem CellR.mono (e:Same F F'){fp:List Addr}{p:Addr}{c:Cell}(h:CellR K F B fp p c)(k:∀ a∈fp,B' a=B a):CellR K F' B' fp p c:=by
 cases h with
 |ins a l b d r=>show .ins a l (by rw[k _ (by simp)];show b) (by rw[k _ (by simp)];show d) (r.mono e fun a ha=>k a (by simp[ha]))
 |row b r=>show .row (by rw[k _ (by simp)];show b) (r.mono e fun a ha=>k a (by simp[ha]))
 |tb a b t h=>show .tb a (by rw[k _ (by simp)];show b) t (h.imp id fun⟨c,h1,h2⟩=>⟨c,h1,e _ _ h2⟩)
theorem BxR.mono (e:Same F F'){fp:List Addr}{β:Bx}(h:BxR K F B fp β)(k:∀ a∈fp,B' a=B a):BxR K F' B' fp β:=by
 induction h with
 |nil=>show .nil
 |cons c _ i=>show .cons (c.mono e fun a ha=>k a (by simp[ha])) (i fun a ha=>k a (by simp[ha]))
theorem FlR.mem {fp:List Addr}{xs:List V}{fs:List Fl}(h:FlR K F B fp xs fs):∀ a∈fp,B a≠none:=by
 induction h with
 |nil=>intro a ha;ext ha
 |v _ _ i=>show i
 |l b _ _ i=>
  intro a ha
  rcases List.mem_cons.mp ha with rfl|ha
  .rw[b];simp
  .exact i a ha
theorem CellR.mem {fp:List Addr}{p:Addr}{c:Cell}(h:CellR K F B fp p c):∀ a∈fp,B a≠none:=by
 intro a ha
 cases h with
 |ins _ _ b d r=>
  rcases List.mem_cons.mp ha with rfl|ha
  .rw[b];simp
  .rcases List.mem_cons.mp ha with rfl|ha
   .rw[d];simp
   .exact r.mem a ha
 |row b r=>
  rcases List.mem_cons.mp ha with rfl|ha
  .rw[b];simp
  .exact r.mem a ha
 |tb _ b _ _=>rw[List.mem_singleton.mp ha,b];simp
theorem BxR.mem {fp:List Addr}{β:Bx}(h:BxR K F B fp β):∀ a∈fp,B a≠none:=by
 induction h with
 |nil=>intro a ha;ext ha
 |cons c _ i=>
  intro a ha
  rcases List.mem_append.mp ha with ha|ha
  .exact c.mem a ha
  .exact i a ha
end
noncomputable def jn (H0 B:Hp):Hp:=fun a=>match B a with |some o=>some o|none=>H0 a
theorem Z7 {H0 B:Hp}{a:Addr}{o:HO}(h:B a=some o):jn H0 B a=some o:=by delta jn;rw[h]
theorem V0 {H0 B:Hp}{a:Addr}(h:B a=none):jn H0 B a=H0 a:=by delta jn;rw[h]
theorem Z8 {H0 B:Hp}{a:Addr}(h:jn H0 B a=none):B a=none/\H0 a=none:=by
 cases b:B a with
 |none=>rw[V0 b]at h;show⟨rfl,h⟩
 |some o=>rw[Z7 b]at h;ext h
structure BxOk (K:W.Frag)(F0 H0 F B:Hp)(fp:List Addr)(β:Bx):Prop where
 out:∀ a,B a≠none->H0 a=none/\F0 a=none
 bx:BxR K F B fp β
 nd:fp.Nodup
 plain:∀ a o u,B a≠some (.frz o u)
theorem BxOk.mono {K:W.Frag}{F0 H0 F F' B:Hp}{fp:List Addr}{β:Bx}(h:BxOk K F0 H0 F B fp β)(e:Same F F'):BxOk K F0 H0 F' B fp β:=⟨h.out,h.bx.mono e fun _ _=>rfl,h.nd,h.plain⟩
noncomputable def RlW (K:W.Frag)(F0 H0 F H:Hp)(σ:St)(ρ:Ro)(β:Bx):Prop:=∃ B fp,Rl K F0 (jn H0 B) F H σ ρ/\BxOk K F0 H0 F B fp β
noncomputable abbrev MW:=Ro->Bx->Option (Out×Bx)
noncomputable def okW (K:W.Frag)(F0 H0 Fb:Hp)(Dn:Ends):Out->Bx->Prop
 | .nx ρ,β=>∀ F H σ,RlW K F0 H0 F H σ ρ β->Same Fb F->Dn.nx σ H
 | .bk ρ,β=>∀ F H σ,RlW K F0 H0 F H σ ρ β->Same Fb F->Dn.bk σ H
 | .ct ρ,β=>∀ F H σ,RlW K F0 H0 F H σ ρ β->Same Fb F->Dn.ct σ H
 | .rt d,β=>∀ v F H B fp,Ext F0 (jn H0 B) F H->BxOk K F0 H0 F B fp β->Rep K F v d->Dn.rt v H
 | .rf ds,β=>∀ p xs F H B fp,Ext F0 (jn H0 B) F H->BxOk K F0 H0 F B fp β->jn H0 B p=none->F p=none->H p=some (.lst xs)->Reps K F xs ds->Dn.rt (.ref p) H
 | .rg d p r,β=>∀ v F H xs B fp,Ext F0 (jn H0 B) F H->BxOk K F0 H0 F B fp β->Rep K F v d->jn H0 B p=none->F p=none->H p=some (.lst xs)->Reps K F xs r->Dn.rt v H
 | .rp _ _,_=>False
 | .rgf _ _ _,_=>False
theorem okW.mono {K:W.Frag}{F0 H0 z j:Hp}{G:Ends}(s:Same z j):∀{o:Out}{β:Bx},okW K F0 H0 z G o β->okW K F0 H0 j G o β
 | .nx _,_,h=>fun F H σ i q=>h F H σ i (s.trans q)
 | .bk _,_,h=>fun F H σ i q=>h F H σ i (s.trans q)
 | .ct _,_,h=>fun F H σ i q=>h F H σ i (s.trans q)
 | .rt _,_,h=>h
 | .rf _,_,h=>h
 | .rp _ _,_,h=>h
 | .rg _ _ _,_,h=>h
 | .rgf _ _ _,_,h=>h
noncomputable def TSw (K:W.Frag)(m:MW):TS:=fun Dn σ H=>∃ F0 H0 F ρ β o β',RlW K F0 H0 F H σ ρ β/\m ρ β=some (o,β')/\okW K F0 H0 F Dn o β'
noncomputable def TDw (K:W.Frag)(m:Ro->Bx->Option D):TE:=fun σ H Q=>∃ F0 H0 F ρ β d,RlW K F0 H0 F H σ ρ β/\m ρ β=some d/\∀ v F' H',RlW K F0 H0 F' H' σ ρ β->Same F F'->Same H H'->Rep K F' v d->Q v H'
noncomputable def TCw (K:W.Frag)(m:Ro->Bx->Option Bool):TT:=fun σ H Q=>∃ F0 H0 F ρ β b,RlW K F0 H0 F H σ ρ β/\m ρ β=some b/\∀ F' H',RlW K F0 H0 F' H' σ ρ β->Same F F'->Q b H'
noncomputable def PSw (X:Cx)(st:Stmt)(m:MW):Prop:=PS X st (TSw X.K m)
noncomputable def PSsw (X:Cx)(st:List Stmt)(m:MW):Prop:=PSs X st (TSw X.K m)
noncomputable def PDw (X:Cx)(e:Expr)(m:Ro->Bx->Option D):Prop:=PE X e (TDw X.K m)
noncomputable def PCw' (X:Cx)(e:Expr)(m:Ro->Bx->Option Bool):Prop:=PT X e (TCw X.K m)
section
variable {X:Cx}{a b c e:Expr}{pos:Pos}{st:Stmt}{rest:List Stmt}
noncomputable def wS (m:MS):MW:=fun ρ β=>match m ρ with |some (.nx ρ')=>some (.nx ρ',β)|some (.bk ρ')=>some (.bk ρ',β)|some (.ct ρ')=>some (.ct ρ',β)|_=>none
noncomputable def wE {α:Type}(m:Ro->Option α):Ro->Bx->Option α:=fun ρ _=>m ρ
theorem psw {m:MS}(h:PSd X st m):PSw X st (wS m):=PS.imp h fun N σ H zQ=>by
 let⟨F0,H0,F,ρ,β,o,I,⟨B,fp,G,ok⟩,e,k⟩:=zQ;delta wS at e
 split at e
 .rename_i ρ' h1
  ext e
  show⟨F0,jn H0 B,F,ρ,_,G,h1,fun F' H' i j z=>k F' H' i ⟨B,fp,j,ok.mono z⟩ z⟩
 .rename_i ρ' h1
  ext e
  show⟨F0,jn H0 B,F,ρ,_,G,h1,fun F' H' i j z=>k F' H' i ⟨B,fp,j,ok.mono z⟩ z⟩
 .rename_i ρ' h1
  ext e
  show⟨F0,jn H0 B,F,ρ,_,G,h1,fun F' H' i j z=>k F' H' i ⟨B,fp,j,ok.mono z⟩ z⟩
 .cases e
theorem pcw {m:MB}(h:PC' X e m):PCw' X e (wE m):=PT.imp h fun σ H Q zQ=>by let⟨F0,H0,F,ρ,β,d,⟨B,fp,i,ok⟩,e,q⟩:=zQ;show ⟨F0,jn H0 B,F,ρ,d,i,e,fun F' H' x=>q F' H' ⟨B,fp,i.go x,ok.mono x.ff⟩ x.ff⟩
noncomputable def G2 (x y:MW):MW:=fun ρ β=>match x ρ β with |some (.nx ρ',β')=>y ρ' β'|o=>o
theorem Q5 {m:MW}(h:PSw X st m):PSsw X [st] m:=zv4 h
theorem zd7:PSsw X [] (wS Y9):=PSs.imp pss_nil fun z σ H zQ=>by
 let⟨F0,H0,F,ρ,β,o,i,⟨B,fp,j,ok⟩,e,k⟩:=zQ;ext e
 show k F H σ ⟨B,fp,j,ok⟩ (Same.refl _)
theorem V6 {m1 m2':MW}(h1:PSw X st m1)(h2:PSsw X rest m2'):PSsw X (st::rest) (G2 m1 m2'):=PSs.imp (F6 h1 h2) fun D σ H z=>by
 let⟨F0,H0,F,ρ,β,o,G,i,e,ok⟩:=z
 delta G2 at e
 cases h:m1 ρ β with
 |none=>rw[h]at e;ext e
 |some ob=>
  let⟨U,j⟩:=ob
  rw[h]at e
  cases U with
  |nx ρ1=>show⟨F0,H0,F,ρ,β,_,j,i,h,fun F' H' N I O=>⟨F0,H0,F',ρ1,j,o,G,I,e,ok.mono O⟩⟩
  |bk ρ1=>ext e;show⟨F0,H0,F,ρ,β,_,_,i,h,ok⟩
  |ct ρ1=>ext e;show⟨F0,H0,F,ρ,β,_,_,i,h,ok⟩
  |rt d=>ext e;show⟨F0,H0,F,ρ,β,_,_,i,h,ok⟩
  |rf d=>ext e;show⟨F0,H0,F,ρ,β,_,_,i,h,ok⟩
  |rp d ds=>ext e;show⟨F0,H0,F,ρ,β,_,_,i,h,ok⟩
  |rg d p r=>ext e;show⟨F0,H0,F,ρ,β,_,_,i,h,ok⟩
  |rgf d p r=>ext e;show⟨F0,H0,F,ρ,β,_,_,i,h,ok⟩
noncomputable def mifW (c:Ro->Bx->Option Bool)(x y:MW):MW:=fun ρ β=>match c ρ β with |some true=>x ρ β|some false=>y ρ β|none=>none
theorem xz2 {ca:Ro->Bx->Option Bool}{x y:List Stmt}{mx I:MW}(U:PCw' X c ca)(O:PSsw X x mx)(N:PSsw X y I):PSw X (.If c x y pos) (mifW ca mx I):=PS.imp (yf1 U O N) fun D σ H z=>by
 let⟨F0,H0,F,ρ,β,o,i,j,e,ok⟩:=z
 delta mifW at e
 split at e
 .rename_i h1
  show⟨F0,H0,F,ρ,β,_,j,h1,fun F1 H1 r1 G=>iteT ⟨F0,H0,F1,ρ,β,o,i,r1,e,ok.mono G⟩⟩
 .rename_i h1
  show⟨F0,H0,F,ρ,β,_,j,h1,fun F1 H1 r1 G=>iteF ⟨F0,H0,F1,ρ,β,o,i,r1,e,ok.mono G⟩⟩
 .cases e
noncomputable def zi5 (i:Nat)(x:Ro->Bx->Option D):MW:=fun ρ β=>(x ρ β).map fun d=>(.nx (ρ.set i (some (.sh d))),β)
theorem xv7 {i:Nat}{x:Str}{pos':Pos}{ma:Ro->Bx->Option D}(hN:X.N.Nodup)(hi:X.N[i]? =some x)(U:Loc X.env.scope x)(Z:PDw X e ma)(hs:swapsWith e (some (.Name x pos')) pos.line X.env=pure false:=by rfl)(Y:X.fn x=true\/X.env.scope.names.lookup x=some .local:=by first|show .inl rfl|show .inr rfl):
  PSw X (.Assign [.Name x pos'] e pos) (zi5 i ma):=PS.imp (zr6 hN hi U Z hs Y) fun D σ H j=>by
 let⟨F0,H0,F,ρ,β,o,G,z,e,ok⟩:=j
 delta zi5 at e
 cases h1:ma ρ β with
 |none=>rw[h1]at e;ext e
 |some d=>
  rw[h1]at e;ext e
  show⟨F0,H0,F,ρ,β,d,z,h1,fun v F1 H1 r1 I _ rp=>?_⟩
  let⟨B,fp,O,k⟩:=r1
  show ok F1 H1 _ ⟨B,fp,O.set rp,k⟩ I
noncomputable def forW (g:Tg)(body:MW):List D->MW
 |[],ρ,β=>some (.nx ρ,β)
 |d::ds,ρ,β=>match tgD g d ρ with
  |some ρ1=>match body ρ1 β with
   |some (.nx ρ2,β2)=>forW g body ds ρ2 β2
   |some (.ct ρ2,β2)=>forW g body ds ρ2 β2
   |some (.bk ρ2,β2)=>some (.nx ρ2,β2)
   |o=>o
  |none=>none
noncomputable def zi8 (mi:ML)(g:Tg)(body:MW):MW:=fun ρ β=>(mi ρ).bind fun its=>forW g body its ρ β
theorem zj2 {tg iter:Expr}{body:List Stmt}{mi:ML}{g:Tg}{mb:MW}(hp:PassesOwn (model X.prog X.w) X.A X.env X.xe)(hc:X.calm=true)(hi:PId X tg iter mi)(hg:PGd X tg g)(hb:PSsw X body mb)
  (hs:∀ x,foldedSetIterable iter X.env x=pure x:=by intro _;rfl):PSw X (.For tg iter body [] pos) (zi8 mi g mb):=PS.imp (zd9 hp hc hi hg hb hs) fun Dn σ H zQ=>by
 let⟨F0,H0,F,ρ,β,o,Y,⟨B,fp,rl,ok⟩,e,k⟩:=zQ;delta zi8 at e
 cases h1:mi ρ with
 |none=>rw[h1]at e;ext e
 |some its=>
  rw[h1]at e
  have e:forW g mb its ρ β=some (o,Y):=e
  show⟨F0,jn H0 B,F,ρ,its,rl,h1,fun J F1 H1 Z I=>?_⟩
  show⟨fun i m a2 H'=>∃ F' ρ' N,RlW X.K F0 H0 F' H' a2 ρ' N/\Same F1 F'/\i<=its.length/\m=its.length-i/\forW g mb (its.drop i) ρ' N=some (o,Y),⟨_,F1,ρ,β,⟨B,fp,rl.go Z,ok.mono Z.ff⟩,Same.refl _,Nat.zero_le _,rfl,e⟩,?_⟩
  rintro i m a2 H' ⟨F',ρ',N,⟨B1,a7,U,a5⟩,sf,aa,rfl,j⟩
  by_cases a3:i<its.length
  .right
   have hd:=getElem?_eq_getElem a3
   show⟨I.go i F' H' sf U.fh a3,fun a4 H2=>∃ F2 z G,RlW X.K F0 H0 F2 H2 a4 z G/\Same F1 F2/\forW g mb (its.drop (i+1)) z G=some (o,Y),?_,fun x H2 y=>?_⟩
   .rintro a4 H2 ⟨F2,z,G,rl2,sf2,e2⟩
    show⟨its.length-(i+1),by lia,F2,z,G,rl2,sf2,a3,rfl,e2⟩
   .let⟨F2,x2,r2⟩:=I.yld i F' H' x H2 _ sf U.fh hd y
    rw[g7 hd]at j
    unfold forW at j
    cases h2:tgD g its[i] ρ' with
    |none=>simp only[h2]at j;ext j
    |some ρ1=>
     simp only[h2]at j
     show⟨F0,jn H0 B1,F2,ρ',_,ρ1,U.go x2,r2,h2,fun F3 H3 a9 a8 x3=>?_⟩
     have s3:Same F1 F3:=(sf.trans x2.ff).trans x3.ff
     cases h3:mb ρ1 N with
     |none=>simp only[h3]at j;ext j
     |some ob=>
      let⟨o1,G⟩:=ob
      simp only[h3]at j
      show⟨F0,H0,F3,ρ1,N,o1,G,⟨B1,a7,a8,a5.mono (x2.ff.trans x3.ff)⟩,h3,?_⟩
      cases o1 with
      |nx z=>show fun F5 H5 a1 O s5=>⟨F5,z,G,O,s3.trans s5,j⟩
      |ct z=>show fun F5 H5 a1 O s5=>⟨F5,z,G,O,s3.trans s5,j⟩
      |bk z=>
       ext j
       show fun F5 H5 a1 O s5=>k F5 H5 a1 O ((Z.ff.trans s3).trans s5)
      |rt d=>ext j;show k.mono (Z.ff.trans s3)
      |rf d=>ext j;show k.mono (Z.ff.trans s3)
      |rp d ds=>ext j;show k.mono (Z.ff.trans s3)
      |rg d p r=>ext j;show k.mono (Z.ff.trans s3)
      |rgf d p r=>ext j;show k.mono (Z.ff.trans s3)
  .left
   have a6:i=its.length:=by lia
   subst a6
   rw[drop_length]at j
   have j:some (Out.nx ρ',N)=some (o,Y):=j
   ext j
   show⟨I.stop F' H' sf U.fh,k F' H' a2 ⟨B1,a7,U,a5⟩ (Z.ff.trans sf)⟩
noncomputable def flD:Fl->D
 | .v d=>d
 | .l ds=>.lst ds
noncomputable def yj1:Cell->D
 | .ins c ns fs=>.obj c ns (fs.map flD)
 | .row fs=>.lst (fs.map flD)
 | .tb P _ _ _=>.ptr P
noncomputable def thawD (β:Bx):D->D
 | .ptr p=>match β.lookup p with |some c=>yj1 c|none=>.ptr p
 |d=>d
noncomputable def D3 (β:Bx):Option S->Option S
 |some (.sh (.ptr p))=>match β.lookup p with |some c=>some (.sh (yj1 c))|none=>some (.sh (.ptr p))
 |some (.sh (.tup ds))=>some (.sh (.tup (ds.map (thawD β))))
 |x=>x
noncomputable def thaw (ρ:Ro)(β:Bx):Ro:=ρ.map (D3 β)
noncomputable def zu9 (m:ME):Ro->Bx->Option D:=fun ρ β=>(m (thaw ρ β)).bind fun d=>if isSc d=true then some d else none
end
section
variable {K:W.Frag}{F0 H0 F H B:Hp}{σ:St}{ρ:Ro}{β:Bx}{fp:List Addr}
theorem FlR.rep {G:Hp}{xs:List V}{fs:List Fl}(j:Same F G)(z:Same B G)(h:FlR K F B fp xs fs):Reps K G xs (fs.map flD):=by
 induction h with
 |nil=>show .nil
 |v r _ i=>show .cons (r.mono j) i
 |l b r _ i=>show .cons (.lst (SqL.of (z _ _ b)) (r.mono j)) i
theorem CellR.rep {G:Hp}{p:Addr}{c:Cell}(j:Same F G)(i:Same B G)(h:CellR K F B fp p c):Rep K G (.ref p) (yj1 c):=by
 cases h with
 |ins a l b d r=>show .obj a l (i _ _ b) (i _ _ d) (r.rep j i)
 |row b r=>show .lst (SqL.of (i _ _ b)) (r.rep j i)
 |tb _ _ _ _=>show .ptr _
theorem BxR.at' {p:Addr}{c:Cell}:∀{fp:List Addr}{β:Bx},BxR K F B fp β->β.lookup p=some c->∃ fq,CellR K F B fq p c
 |_,_,.nil,e=>by ext e
 |_,_,.cons (p:=q) h r,e=>by
  rw[lookup_cons]at e
  split at e
  .rename_i z
   have z:=beq_iff_eq.mp z
   subst z
   ext e
   show⟨_,h⟩
  .exact r.at' e
theorem Rep.thawD {G:Hp}{v:V}{d:D}(i:Same F G)(I:Same B G)(z:BxR K F B fp β)(h:Rep K F v d):Rep K G v (L2.thawD β d):=by
 cases d with
 |ptr p=>
  ext h
  cases hc:β.lookup p with
  |none=>simp only[L2.thawD,hc];show .ptr p
  |some c=>let⟨fq,j⟩:=z.at' hc;simp only[L2.thawD,hc];show j.rep i I
 |_=>show h.mono i
theorem Reps.thawD {G:Hp}(j:Same F G)(z:Same B G)(i:BxR K F B fp β):∀{xs:List V}{ds:List D},Reps K F xs ds->Reps K G xs (ds.map (L2.thawD β))
 |_,_,.nil=>.nil
 |_,_,.cons h r=>.cons (h.thawD j z i) (Reps.thawD j z i r)
theorem RlW.frozen (z:Rl K F0 (jn H0 B) F H σ ρ)(ok:BxOk K F0 H0 F B fp β):Rl K (jn F0 B) (jn H0 B) (jn F B) H σ (thaw ρ β)/\Same F (jn F B):=by
 have bh:Same B H:=fun a o e=>z.ext.hh a o (Z7 e)
 have fn:∀ a,B a≠none->F a=none:=fun a h=>by
  cases q:F a with
  |none=>rfl
  |some o=>
   have:=z.ext.new a (ok.out a h).2 (by rw[q];simp)
   show absurd (Z8 this).1 h
 have Y:Same F (jn F B):=fun a o e=>by
  cases q:B a with
  |none=>rw[V0 q];show e
  |some u=>rw[fn a (by rw[q];simp)]at e;ext e
 have bj:Same B (jn F B):=fun a o e=>Z7 e
 have I:∀(i:Nat) x,(thaw ρ β)[i]? =some x->∃ y,ρ[i]? =some y/\x=D3 β y:=fun i x e=>by
  delta thaw at e
  rw[getElem?_map]at e
  cases q:ρ[i]? with
  |none=>rw[q]at e;ext e
  |some y=>rw[q]at e;ext e;show⟨y,rfl,rfl⟩
 have tO:∀{y:Option S}{ds:List D},some (.own ds)=D3 β y->y=some (.own ds):=fun{y ds} e=>by
  delta D3 at e
  split at e
  .split at e <;> ext e
  .cases e
  .exact e.symm
 have tB:∀{y:Option S}{p:Addr}{ds:List D},some (.ob p ds)=D3 β y->y=some (.ob p ds):=fun{y p ds} e=>by
  delta D3 at e
  split at e
  .split at e <;> ext e
  .cases e
  .exact e.symm
 have G:∀(i:Nat) ds,(thaw ρ β)[i]? =some (some (.own ds))->ρ[i]? =some (some (.own ds)):=fun i ds e=>by
  let⟨y,e1,e2⟩:=I i _ e
  rw[e1,tO e2]
 have O:∀(i:Nat) p ds,(thaw ρ β)[i]? =some (some (.ob p ds))->ρ[i]? =some (some (.ob p ds)):=fun i p ds e=>by
  let⟨y,e1,e2⟩:=I i _ e
  rw[e1,tB e2]
 have jf:∀ p,F p=none->jn H0 B p=none->jn F B p=none:=fun p h h2=>by rw[V0 (Z8 h2).1];show h
 show⟨⟨⟨fun a o e=>?_,z.ext.hh,fun a o e=>?_,fun b e n=>?_,fun b o u e=>?_⟩,by delta thaw;rw[length_map];show z.len,fun i d e=>?_,fun i ds e=>?_,fun i j p ds es Z e1 e2 e3 e4=>z.inj i j p ds es Z (G i ds e1) (G j es e2) e3 e4,fun i p ds e=>?_,fun i j p ds es e1 e2 e3=>z.obn i j p ds es (O i p ds e1) (G j es e2) e3,fun i j p q ds es e1 e2=>z.ob1 i j p q ds es (O i p ds e1) (O j q es e2)⟩,Y⟩
 .cases q:B a with
  |none=>rw[V0 q]at e;rw[V0 q];show z.ext.ff a o e
  |some u=>rw[Z7 q]at e;rw[Z7 q];show e
 .cases q:B a with
  |none=>rw[V0 q]at e;show z.ext.fh a o e
  |some u=>rw[Z7 q]at e;ext e;show bh a _ q
 .let⟨e1,e2⟩:=Z8 e
  rw[V0 e1]at n
  show z.ext.new b e2 n
 .cases q:B b with
  |none=>rw[V0 q]at e ⊢;show z.ext.nf b o u e
  |some w=>rw[Z7 q]at e ⊢;show e
 .let⟨y,e1,e2⟩:=I i _ e
  delta D3 at e2
  split at e2
  .rename_i p
   let⟨v,N,U⟩:=z.sh i _ e1
   ext U
   split at e2
   .rename_i c hc
    ext e2
    let⟨fq,hq⟩:=ok.bx.at' hc
    show⟨_,N,hq.rep Y bj⟩
   .cases e2
    show⟨_,N,.ptr p⟩
  .let⟨v,N,U⟩:=z.sh i _ e1
   ext e2
   cases U with
   |tup s r=>show⟨_,N,.tup (Y.seqT s) (r.thawD Y bj ok.bx)⟩
  .subst e2
   let⟨v,N,U⟩:=z.sh i d e1
   show⟨v,N,U.mono Y⟩
 .let⟨p,xs,N,U,a3,a4,a5⟩:=z.own i ds (G i ds e)
  show⟨p,xs,N,jf p U a5,a3,a4.mono Y,a5⟩
 .let⟨N,U,a3,xs,a4,a5⟩:=z.ob i p ds (O i p ds e)
  show⟨N,jf p U a3,a3,xs,a4,a5.mono Y⟩
theorem RlW.melt {F2 H2:Hp}(i:Rl K F0 (jn H0 B) F H σ ρ)(ok:BxOk K F0 H0 F B fp β)(x:Ext (jn F B) H F2 H2)(j:Same F (jn F B)):RlW K F0 H0 F H2 σ ρ β:=
 ⟨B,fp,i.go ⟨Same.refl _,x.hh,i.fh.trans x.hh,fun b e n=>absurd e n,fun _ _ _ z=>z⟩,ok⟩
end
section
variable {X:Cx}{a b c e:Expr}{pos:Pos}
theorem zc2 {m:ME}(h:PD X e m):PDw X e (zu9 m):=PE.imp h fun σ H Q zQ=>by
 let⟨F0,H0,F,ρ,β,d,⟨B,fp,i,ok⟩,e,q⟩:=zQ;delta zu9 at e
 cases h1:m (thaw ρ β)with
 |none=>rw[h1]at e;ext e
 |some d'=>
  rw[h1,Option.bind_some]at e
  split at e
  .rename_i hs
   ext e
   let⟨r1,j⟩:=RlW.frozen i ok
   show⟨_,_,_,_,_,r1,h1,fun v F' H' x r=>q v F H' (RlW.melt i ok x j) (Same.refl _) x.hh (ya9 hs r)⟩
  .cases e
end
end
section
noncomputable def cut (H B:Hp):Hp:=fun a=>match B a with |some _=>none|none=>H a
theorem yk6 {H B:Hp}{a:Addr}(h:B a=none):cut H B a=H a:=by delta cut;rw[h]
theorem xf7 {H B:Hp}(h:Same B H):jn (cut H B) B=H:=by
 funext a
 cases q:B a with
 |none=>rw[V0 q,yk6 q]
 |some o=>rw[Z7 q,h a o q]
noncomputable abbrev MFW:=List D->Bx->Option (Rt×Bx)
noncomputable def okTW (K:W.Frag)(F H B:Hp)(Q:VK):Rt->Bx->Prop
 | .sh d,β=>∀ v F' H' B' fp',Ext F (jn (cut H B) B') F' H'->BxOk K F (cut H B) F' B' fp' β->Rep K F' v d->Q v H'
 | .fr ds,β=>∀ p xs F' H' B' fp',Ext F (jn (cut H B) B') F' H'->BxOk K F (cut H B) F' B' fp' β->jn (cut H B) B' p=none->F' p=none->H' p=some (.lst xs)->Reps K F' xs ds->Q (.ref p) H'
 | .pr _ _,_=>False
noncomputable def spW (K:W.Frag)(n:Nat)(m:MFW):Sp:=fun vs H Q _=>vs.length=n/\∃ F B fp ds β r β',Same F H/\Same B H/\BxOk K F (cut H B) F B fp β/\Reps K F vs ds/\m ds β=some (r,β')/\okTW K F H B Q r β'
noncomputable def runW (n:Nat)(m:MW):MFW:=fun ds β=>match m (u0 n ds) β with
 |some (.nx _,β')=>some (.sh .non,β'.drop (β'.length-β.length))
 |some (.rt d,β')=>some (.sh d,β'.drop (β'.length-β.length))
 |some (.rf es,β')=>some (.fr es,β'.drop (β'.length-β.length))
 |_=>none
theorem BxR.drop {K:W.Frag}{F B:Hp}:∀{fp:List Addr}{β:Bx}(k:Nat),BxR K F B fp β->∃ fq,BxR K F B fq (β.drop k)/\fq.Sublist fp
 |_,_,0,h=>⟨_,h,List.Sublist.refl _⟩
 |_,_,k+1,.nil=>⟨_,.nil,List.Sublist.refl _⟩
 |_,_,k+1,.cons c r=>by
  let⟨fq,h,s⟩:=BxR.drop k r
  show⟨fq,h,s.trans (sublist_append_right _ _)⟩
theorem BxOk.drop {K:W.Frag}{F0 H0 F B:Hp}{fp:List Addr}{β:Bx}(h:BxOk K F0 H0 F B fp β)(k:Nat):∃ fq,BxOk K F0 H0 F B fq (β.drop k):=by
 let⟨fq,r,s⟩:=h.bx.drop k
 show⟨fq,h.out,r,h.nd.sublist s,h.plain⟩
theorem Fun.okW {P:Program}{w:World}{K:W.Frag}{mg:Str->Option Value}{base:Heap}{x qual:Str}{st:Stmt}{f:Addr}{fd:FuncData}{N ps:List Str}{k:Nat}{m:MW}(Fn:Fun K x qual st f fd)(Sc:FnScope N ps (z9 st))
  (i:∀(cdv:Value)(A:Around)(outer:List Env)(s:Shared)(H:Hp)(E:XK),Room k (A.deeper (envOfC qual (z9 st) s.heap.objs.size f cdv))->PSsw (cxOf CX0 P w K mg base N qual (z9 st) f cdv A outer s H E).nox (d7 st) m):
  FnOk P w K mg base CX0 (k+1) f fd ps (spW K ps.length (runW N.length m)):=by
 show Fn.ok Sc (fun vs H Q E h=>h.1) fun cdv A outer s H vs Q E hr h=>?_
 let⟨hl,F,B,fp,ds,β,r,O,U,sb,bo,Y,e,ok⟩:=h
 delta runW at e
 show⟨_,i cdv A outer s H E hr,F,cut H B,F,u0 N.length ds,β,?_⟩
 have V3:RlW K F (cut H B) F H (V3 N vs) (u0 N.length ds) β:=⟨B,fp,by rw[xf7 sb];show G9 U Y,bo⟩
 split at e
 .rename_i ρ β1 h1
  ext e
  show⟨_,_,V3,h1,fun F' H' I Z _=>?_⟩
  let⟨B',z,G,k'⟩:=Z
  let⟨fq,j⟩:=k'.drop (β1.length-β.length)
  show ok .non F' H' B' fq G.ext j .non
 .rename_i d β1 h1
  ext e
  show⟨_,_,V3,h1,fun v F' H' B' z x k' rp=>?_⟩
  let⟨fq,j⟩:=k'.drop (β1.length-β.length)
  show ok v F' H' B' fq x j rp
 .rename_i es β1 h1
  ext e
  show⟨_,_,V3,h1,fun p xs F' H' B' z x k' a1 a2 a3 a4=>?_⟩
  let⟨fq,j⟩:=k'.drop (β1.length-β.length)
  show ok p xs F' H' B' fq x j a1 a2 a3 a4
 .cases e
section
variable {K:W.Frag}{F0 H0 F H B:Hp}{σ:St}{ρ:Ro}{β:Bx}{fp:List Addr}
end
section
variable {X:Cx}{a b c e o:Expr}{pos:Pos}{st:Stmt}{rest:List Stmt}{E:XK}{es:List Expr}{mf:MFW}{m:ML}
end
end
section
section
variable {X:Cx}{a b c e o:Expr}{pos apos:Pos}{E:XK}{es:List Expr}{m:ML}{mo:ME}
end
noncomputable def updB (p:Addr)(c':Cell):Bx->Bx
 |[]=>[]
 | (q,c)::β=>if q=p then (q,c')::β else (q,c)::updB p c' β
section
variable {K:W.Frag}{F0 H0 F H B:Hp}{σ:St}{ρ:Ro}{β:Bx}{fp:List Addr}
theorem BxR.upd {p:Addr}{c:Cell}:∀{fp:List Addr}{β:Bx},BxR K F B fp β->fp.Nodup->β.lookup p=some c->∃ fq,CellR K F B fq p c/\fq.Nodup/\(∀ a∈fq,a∈fp)/\
  ∀(c':Cell)(i:List Addr)(B' F':Hp),Same F F'->CellR K F' B' i p c'->i.Nodup->(∀ a∈fp,a∉fq->B' a=B a)->(∀ a∈i,a∈fq\/a∉fp)->∃ j,BxR K F' B' j (updB p c' β)/\j.Nodup/\∀ a∈j,a∈fp\/a∈i:=by
 intro fp β i;induction i with
 |nil=>intro _ e;ext e
 |@cons f0 f1 q c0 β h r ih=>
  intro nd e
  let⟨n0,n1,n2⟩:=List.nodup_append.mp nd
  have N:∀ a,a∈f0->a∈f1->False:=fun a h1 h2=>n2 a h1 a h2 rfl
  rw[lookup_cons]at e
  cases z:p==q with
  |true=>
   rw[z]at e
   have z:=beq_iff_eq.mp z
   subst z
   ext e
   show⟨f0,h,n0,fun a ha=>mem_append_left _ ha,fun c' i B' F' O hc Z U fr=>?_⟩
   unfold updB
   rw[if_pos rfl]
   show⟨i++f1,.cons hc (r.mono O fun a ha=>U a (mem_append_right _ ha) fun z=>N a z ha),List.nodup_append.mpr ⟨Z,n1,fun a h1 b h2 I=>?_⟩,fun a ha=>?_⟩
   .subst I
    rcases fr a h1 with z|z
    .exact N a z h2
    .exact z (mem_append_right _ h2)
   .rcases List.mem_append.mp ha with z|z
    .exact .inr z
    .exact .inl (mem_append_right _ z)
  |false=>
   rw[z]at e
   have a3:¬ q=p:=fun y=>by rw[y,beq_self_eq_true]at z;ext z
   let⟨fq,h1,Y,G,a2⟩:=ih n1 e
   show⟨fq,h1,Y,fun a ha=>mem_append_right _ (G a ha),fun c' i B' F' O hc Z U fr=>?_⟩
   let⟨j,r',a1,hm⟩:=a2 c' i B' F' O hc Z (fun a ha hn=>U a (mem_append_right _ ha) hn) fun a ha=>(fr a ha).imp id fun z y=>z (mem_append_right _ y)
   unfold updB
   rw[if_neg a3]
   show⟨f0++j,.cons (h.mono O fun a ha=>U a (mem_append_left _ ha) fun y=>N a ha (G a y)) r',List.nodup_append.mpr ⟨n0,a1,fun a h1 b h2 I=>?_⟩,fun a ha=>?_⟩
   .subst I
    rcases hm a h2 with z|z
    .exact N a h1 z
    .rcases fr a z with y|y
     .exact N a h1 (G a y)
     .exact y (mem_append_left _ h1)
   .rcases List.mem_append.mp ha with z|z
    .exact .inl (mem_append_left _ z)
    .exact(hm a z).imp (mem_append_right _) id
theorem Rl.putB {a:Addr}{o:HO}(j:Rl K F0 (jn H0 B) F H σ ρ)(out:∀ b,B b≠none->H0 b=none/\F0 b=none)(ha:B a≠none\/H a=none):Rl K F0 (jn H0 (upd B a o)) F (upd H a o) σ ρ/\F a=none/\H0 a=none/\F0 a=none:=by
 have N:F a=none/\H0 a=none/\F0 a=none:=by
  rcases ha with h|h
  .refine⟨?_,out a h⟩
   cases q:F a with
   |none=>rfl
   |some u=>show absurd (Z8 (j.ext.new a (out a h).2 (by rw[q];simp))).1 h
  .have f:F a=none:=j.fh.free h
   show⟨f,(Z8 (j.ext.hh.free h)).2,j.ext.ff.free f⟩
 have I:∀ b,b≠a->jn H0 (upd B a o) b=jn H0 B b:=fun b G=>by delta jn;rw[y4 G]
 have ne:∀ p xs,jn H0 B p=none->H p=some (.lst xs)->p≠a:=fun p xs e1 e2 e3=>by
  subst e3
  rcases ha with h|h
  .exact h (Z8 e1).1
  .rw[h]at e2;ext e2
 show⟨⟨⟨j.ext.ff,fun b u e=>?_,j.ext.fh.put N.1,fun b e n=>?_,j.ext.nf⟩,j.len,j.sh,fun i ds e=>?_,j.inj,fun i p ds e=>?_,j.obn,j.ob1⟩,N⟩
 .by_cases G:b=a
  .subst G
   rw[Z7 y3]at e
   rw[y3];show e
  .rw[I b G]at e
   rw[y4 G]
   show j.ext.hh b u e
 .have G:b≠a:=fun z=>by subst z;show n N.1
  rw[I b G]
  show j.ext.new b e n
 .let⟨p,xs,a1,a2,a3,a4,a5⟩:=j.own i ds e
  have hp:=ne p xs a5 a3
  show⟨p,xs,a1,a2,by rw[y4 hp];show a3,a4,by rw[I p hp];show a5⟩
 .let⟨a1,a2,a3,xs,a4,a5⟩:=j.ob i p ds e
  have hp:=ne p xs a3 a4
  show⟨a1,a2,by rw[I p hp];show a3,xs,by rw[y4 hp];show a4,a5⟩
end
end
section
section
variable {K:W.Frag}{F0 H0 F H B:Hp}{σ:St}{ρ:Ro}{β:Bx}{fp:List Addr}
theorem FlR.length {xs:List V}{fs:List Fl}(h:FlR K F B fp xs fs):xs.length=fs.length:=by
 induction h with
 |nil=>rfl
 |v _ _ i=>simp[i]
 |l _ _ _ i=>simp[i]
theorem xw1 {a:Addr}{o:HO}(out:∀ b,B b≠none->H0 b=none/\F0 b=none)(h:H0 a=none/\F0 a=none):∀ b,upd B a o b≠none->H0 b=none/\F0 b=none:=fun b i=>by
 by_cases z:b=a
 .subst z;show h
 .rw[y4 z]at i;show out b i
theorem yv7 {a:Addr}{o:HO}(pl:∀ b o u,B b≠some (.frz o u))(h:∀ p u,o≠ .frz p u):∀ b p u,upd B a o b≠some (.frz p u):=fun b p u i=>by
 by_cases z:b=a
 .subst z;rw[y3]at i;show h p u (Option.some.inj i)
 .rw[y4 z]at i;show pl b p u i
end
section
variable {X:Cx}{value o:Expr}{pos pos':Pos}{f:Str}
end
end
section
section
variable {X:Cx}{value e o:Expr}{pos pos' apos cpos:Pos}{f:Str}{st:Stmt}{rest:List Stmt}
end
end
section
theorem Rl.forget {K:W.Frag}{F0 H0 F H:Hp}{σ:St}{ρ:Ro}(r:Rl K F0 H0 F H σ ρ)(i:Nat):Rl K F0 H0 F H σ (ρ.set i none):=by
 have G:∀(j:Nat) x,(ρ.set i none)[j]? =some (some x)->ρ[j]? =some (some x):=fun j x e=>by
  by_cases N:i=j
  .subst N
   rcases Nat.lt_or_ge i ρ.length with z|z
   .rw[getElem?_set_self z]at e;ext e
   .rw[getElem?_eq_none (by simpa using z)]at e;ext e
  .rw[getElem?_set_ne N]at e;show e
 show⟨r.ext,by simp[r.len],fun j d e=>r.sh j d (G j _ e),fun j ds e=>r.own j ds (G j _ e),fun j k p ds es I e1 e2=>r.inj j k p ds es I (G j _ e1) (G k _ e2),fun j p ds e=>r.ob j p ds (G j _ e),fun j k p ds es e1 e2=>r.obn j k p ds es (G j _ e1) (G k _ e2),fun j k p q ds es e1 e2=>r.ob1 j k p q ds es (G j _ e1) (G k _ e2)⟩
open Classical in
noncomputable def anyN {α:Type}(β:Bx)(f:Addr->Option α):Option α:=if h:∃ r,∀ x,x∉β.map Prod.fst->f x=some r then some (Classical.choose h)else none
theorem yi6 {α:Type}{β:Bx}{f:Addr->Option α}{r:α}(h:anyN β f=some r):∀ x,x∉β.map Prod.fst->f x=some r:=by
 delta anyN at h
 split at h
 .rename_i hx
  ext h
  show Classical.choose_spec hx
 .cases h
theorem yw2 (l:List Addr):∃ x,x∉l:=by
 have z:∀ l:List Addr,∃ b,∀ a∈l,a<b:=by
  intro l
  induction l with
  |nil=>show⟨0,fun a h=>by cases h⟩
  |cons a l G=>
   let⟨b,j⟩:=G
   show⟨max b (a+1),fun c i=>?_⟩
   rcases List.mem_cons.mp i with rfl|i
   .have:=Nat.le_max_right b (c+1);show Nat.lt_of_lt_of_le (Nat.lt_succ_self c) this
   .exact Nat.lt_of_lt_of_le (j c i) (Nat.le_max_left _ _)
 let⟨b,j⟩:=z l
 show⟨b,fun h=>Nat.lt_irrefl _ (j b h)⟩
theorem xo7 {α:Type}{β:Bx}{f:Addr->Option α}{r:α}(h:∀ x,x∉β.map Prod.fst->f x=some r):anyN β f=some r:=by
 delta anyN
 have i:∃ r,∀ x,x∉β.map Prod.fst->f x=some r:=⟨r,h⟩
 rw[dif_pos i]
 let⟨x,hn⟩:=yw2 (β.map Prod.fst)
 have:=Classical.choose_spec i x hn
 rw[h x hn]at this
 show this.symm
noncomputable def letGo (i:Nat)(k:Nat):Out×Bx->Out×Bx
 | (.nx ρ,β)=>(.nx (ρ.set i none),β.drop (β.length-k))
 | (.bk ρ,β)=>(.bk (ρ.set i none),β.drop (β.length-k))
 | (.ct ρ,β)=>(.ct (ρ.set i none),β.drop (β.length-k))
 | (o,β)=>(o,β.drop (β.length-k))
theorem okW.letGo {K:W.Frag}{F0 H0 I:Hp}{N:Ends}{i k:Nat}:∀{o:Out}{β:Bx},okW K F0 H0 I N (letGo i k (o,β)).1 (letGo i k (o,β)).2->okW K F0 H0 I N o β
 | .nx ρ,β,h=>fun F H σ ⟨B,fp,G,ok⟩ s=>let ⟨fq,z⟩:=ok.drop (β.length-k);h F H σ ⟨B,fq,G.forget i,z⟩ s
 | .bk ρ,β,h=>fun F H σ ⟨B,fp,G,ok⟩ s=>let ⟨fq,z⟩:=ok.drop (β.length-k);h F H σ ⟨B,fq,G.forget i,z⟩ s
 | .ct ρ,β,h=>fun F H σ ⟨B,fp,G,ok⟩ s=>let ⟨fq,z⟩:=ok.drop (β.length-k);h F H σ ⟨B,fq,G.forget i,z⟩ s
 | .rt d,β,h=>fun v F H B fp x ok r=>let ⟨fq,z⟩:=ok.drop (β.length-k);h v F H B fq x z r
 | .rf ds,β,h=>fun p xs F H B fp x ok a b c r=>let ⟨fq,z⟩:=ok.drop (β.length-k);h p xs F H B fq x z a b c r
 | .rg d p r,β,h=>fun v F H xs B fp x ok a j b c e=>let ⟨fq,z⟩:=ok.drop (β.length-k);h v F H xs B fq x z a j b c e
 | .rp _ _,_,h=>h
 | .rgf _ _ _,_,h=>h
section
variable {X:Cx}{e:Expr}{es:List Expr}{st:Stmt}{rest:List Stmt}{E:XK}{mf:MFW}{m:ML}
theorem BxR.keys {K:W.Frag}{F B:Hp}:∀{fp:List Addr}{β:Bx},BxR K F B fp β->∀ p∈β.map Prod.fst,B p≠none:=by
 intro fp a i;induction i with
 |nil=>intro p h;ext h
 |@cons _ _ q _ _ c r ih=>
  intro p h
  rw[map_cons]at h
  rcases List.mem_cons.mp h with z|z
  .subst z
   cases c with
   |ins _ _ b _ _=>rw[b];simp
   |row b _=>rw[b];simp
   |tb _ b _ _=>rw[b];simp
  .exact ih p z
end
noncomputable def plainW (mf:MFW):MF:=fun ds=>match mf ds []with |some (.sh d,_)=>some (.sh d)|some (.fr es,_)=>some (.fr es)|_=>none
theorem Ext.unjn {F H B F' H':Hp}(d:∀ a,B a≠none->H a=none)(x:Ext F (jn H B) F' H'):Ext F H F' H':=
 ⟨x.ff,fun a o e=>x.hh a o (by
  cases q:B a with
  |none=>rw[V0 q];show e
  |some u=>rw[d a (by rw[q];simp)]at e;ext e),x.fh,fun b e n=>(Z8 (x.new b e n)).2,x.nf⟩
theorem FnOk.plainW {P:Program}{w:World}{K:W.Frag}{mg:Str->Option Value}{base:Heap}{CX:CXT}{k:Nat}{f:Addr}{fd:FuncData}{ps:List Str}{n:Nat}{mf:MFW}(G:FnOk P w K mg base CX k f fd ps (spW K n mf)):FnOk P w K mg base CX k f fd ps (spR K n (plainW mf)):=G.imp fun vs H Q E i=>by
 let⟨Y,F,ds,r,z,I,e,ok⟩:=i
 have N:cut H (fun _=>none)=H:=funext fun a=>yk6 rfl
 have O:BxOk K F (cut H fun _=>none) F (fun _=>none) [] []:=⟨fun a h=>absurd rfl h,.nil,nodup_nil,fun a o u h=>by cases h⟩
 show⟨Y,F,fun _=>none,[],ds,[],?_⟩
 delta L2.plainW at e
 split at e
 .rename_i d β h1
  ext e
  show⟨_,_,z,fun a o h=>(by ext h),O,I,h1,fun v F' H' B' j x k' r=>?_⟩
  rw[N]at x k'
  show ok v F' H' (x.unjn fun a h=>(k'.out a h).1) r
 .rename_i es β h1
  ext e
  show⟨_,_,z,fun a o h=>(by ext h),O,I,h1,fun p xs F' H' B' j x k' U a2 a3 Z=>?_⟩
  rw[N]at x k' U
  show ok p xs F' H' (x.unjn fun a h=>(k'.out a h).1) (Z8 U).2 a2 a3 Z
 .cases e
end
section
section
variable {X:Cx}{a b c e o:Expr}{pos:Pos}{st:Stmt}{rest:List Stmt}{E:XK}{es:List Expr}{mf:MFW}
end
end
section
section
variable {X:Cx}{e o:Expr}{E:XK}
end
end
section
section
variable {X:Cx}{e:Expr}{pos:Pos}
end
end
section
section
variable {K:W.Frag}{F0 H0 F H B:Hp}{σ:St}{ρ:Ro}{β:Bx}{fp:List Addr}
end
noncomputable abbrev MGW:=Addr->List D->List D->Bx->Option (D×List D×Bx)
section
variable {X:Cx}{e:Expr}{pos:Pos}{st:Stmt}{es:List Expr}{E:XK}{mf:MGW}{m:ML}
end
end
section
end
section
noncomputable def qfnD (K:W.Frag)(nm ql:Str)(st:Stmt)(x:Addr):Prop:=∃(oc:Value)(o1:Option Addr)(kV dc pm:Value)(o2:Option Addr)(cd ct:Value)(sl:Array (Option Value)),K.lookup x=some ⟨oc,o1,.func (W.fnOf nm ql (S1 st) (d7 st) (z9 st) .none kV dc pm o2 cd ct),sl⟩/\W.codeIn K cd ql=true/\W.keepIn K (.ref x)=true
noncomputable def QDn (K:W.Frag)(nm:Str)(st:Stmt):Prop:=∃ x:Addr,W.nsIn K mainGlobals nm=some (some (.ref x))/\qfnD K nm nm st x
noncomputable def QMn (K:W.Frag)(C:Addr)(nm ql:Str)(st:Stmt):Prop:=∃ x:Addr,W.findIn K (.ref C) nm=some (some (.ref x))/\W.isFn K (.ref x)=true/\qfnD K nm ql st x
theorem QDn.of {K:W.Frag}{nm:Str}{st:Stmt}{x:Addr}{oc:Value}{z:Option Addr}{kV G pm:Value}{j:Option Addr}{i ct:Value}{sl:Array (Option Value)}(e:W.nsIn K mainGlobals nm=some (some (.ref x)))(l:K.lookup x=some ⟨oc,z,.func (W.fnOf nm nm (S1 st) (d7 st) (z9 st) .none kV G pm j i ct),sl⟩)(c:W.codeIn K i nm=true)(k:W.keepIn K (.ref x)=true):QDn K nm st:=⟨x,e,oc,z,kV,G,pm,j,i,ct,sl,l,c,k⟩
theorem QMn.of {K:W.Frag}{C:Addr}{nm ql:Str}{st:Stmt}{x:Addr}{oc:Value}{G:Option Addr}{kV I pm:Value}{z:Option Addr}{j ct:Value}{sl:Array (Option Value)}(e:W.findIn K (.ref C) nm=some (some (.ref x)))(i:W.isFn K (.ref x)=true)(l:K.lookup x=some ⟨oc,G,.func (W.fnOf nm ql (S1 st) (d7 st) (z9 st) .none kV I pm z j ct),sl⟩)(c:W.codeIn K j ql=true)(k:W.keepIn K (.ref x)=true):QMn K C nm ql st:=⟨x,e,i,oc,G,kV,I,pm,z,j,ct,sl,l,c,k⟩
noncomputable abbrev QBdD (nm ql:Str)(st:Stmt)(ps:List Str)(us:List Value):Prop:=∀(kV doc pm:Value)(an:Option Addr)(cdv ct:Value),bindArgs (W.fnOf nm ql (S1 st) (d7 st) (z9 st) .none kV doc pm an cdv ct) ⟨us,[]⟩=pure (ps.zip us)
section
variable {P:Program}{w:World}{K:W.Frag}{mg:Str->Option Value}{base h:Heap}{nm ql cn:Str}{st:Stmt}{ps:List Str}{sp:Sp}{n:Nat}{C:Addr}
noncomputable def QDf (K:W.Frag)(mg:Str->Option Value)(nm:Str)(st:Stmt)(ps:List Str):Prop:=∃ f fd,Fun K nm nm st f fd/\Binds K fd ps []/\mg nm=some (.ref f)
noncomputable def QHd (P:Program)(w:World)(K:W.Frag)(mg:Str->Option Value)(base:Heap)(n:Nat)(nm:Str)(ps:List Str)(sp:Sp):Prop:=∃ f fd,FnOk P w K mg base CX0 n f fd ps sp/\Binds K fd ps []/\W.keepIn K (.ref f)=true/\mg nm=some (.ref f)
theorem qfnD.mk {x:Addr}(D:qfnD K nm ql st x)(j:∀ us:List Value,us.length=ps.length->QBdD nm ql st ps us):∃ fd,Fun K nm ql st x fd/\Binds K fd ps []:=by
 let⟨oc,G,kV,I,pm,z,N,ct,sl,l,c,k⟩:=D
 show⟨_,ym7 l c k,(ym7 l c k).binds fun _ _ _ _ _ _ us i=>j us i _ _ _ _ _ _⟩
theorem QDn.df (D:QDn K nm st)(X:K.In h)(G:h.Ns mainGlobals mg)(i:∀ us:List Value,us.length=ps.length->QBdD nm nm st ps us):QDf K mg nm st ps:=by
 let⟨x,e,D⟩:=D
 let⟨fd,F,b⟩:=D.mk i
 show⟨x,fd,F,b,W.mg_of X G e⟩
theorem QDf.mk (D:QDf K mg nm st ps)(h:∀ f fd,Fun K nm nm st f fd->FnOk P w K mg base CX0 n f fd ps sp):QHd P w K mg base n nm ps sp:=by
 let⟨f,fd,F,b,a⟩:=D
 show⟨f,fd,h f fd F,b,F.kp,a⟩
theorem qbS{P:List Value->Prop}{n:Nat}(h:∀a b,b.length=n->P (a::b)):∀b:List Value,b.length=n+1->P b:=λb e=>by ext b;ext e;show h _ _ (Nat.succ.inj e)
theorem qbd1{P:List Value->Prop}(h:∀a,P [a]):∀b:List Value,b.length=1->P b:=qbS λa b e=>by ext b;show h a;ext e
theorem qbd2{P:List Value->Prop}(h:∀a b,P [a,b]):∀f:List Value,f.length=2->P f:=qbS λa=>qbd1 (h a)
theorem qbd3{P:List Value->Prop}(h:∀a b c,P [a,b,c]):∀f:List Value,f.length=3->P f:=qbS λa=>qbd2 (h a)
end
section
variable {X:Cx}{n k:Nat}{nm cn:Str}{ps:List Str}{sp:Sp}{e o:Expr}{es:List Expr}{ta:TE}{t:TA}{p pos apos:Pos}{C:Addr}{pl:Sem Bool}
theorem qcl (H:QHd X.prog X.w X.K X.mg X.base n nm ps sp)(hr:Room k X.A)(ha:PA X (e::es) t)(hn:n<=k:=by decide)(G:Gl X nm:=by rfl)(j:(nm==("__debug__":Str))=false:=by decide)(I:starEach (e::es) X.env=(false,eval e X.env)::starEach es X.env:=by rfl)(i:(backTo pos (starEach es X.env)).any (·.1)=false:=by rfl):
  PE X (.Call (.Name nm p) (e::es) [] pos) (zk3 sp [] E0 t):=by
 let⟨f,fd,F,b,z,a⟩:=H
 show xu7 (F.mono hn) hr G a z b .nil wz2 ha j I i
end
theorem qap {X:Cx}{o e:Expr}{es:List Expr}{to:TE}{t:TA}{apos cpos:Pos}(I:PE X o to)(ha:PA X (e::es) t)
  (z:attributeBase o "append" X.env (eval o X.env)=eval o X.env:=by rfl)
  (G:((backTo cpos (starEach (e::es) X.env)).all (fun x=>!x.1)&&(backToKw cpos (keywordEach [] X.env)).all (fun x=>x.1.isSome)
   &&decide ((e::es).length+([]:List Keyword).length+(if ([]:List Keyword).isEmpty then 0 else 1)<30))=true:=by rfl)
  (j:(apos.endLine==cpos.line)=true:=by rfl) (hs:starEach (e::es) X.env=(false,eval e X.env)::starEach es X.env:=by rfl) (i:(backTo cpos (starEach es X.env)).any (·.1)=false:=by rfl):
  PE X (.Call (.Attribute o "append" apos) (e::es) [] cpos) (tBM X.K "list" zv2 to t):=xi3 PySem.F.plainAttrs_list PySem.F.slot_list_append PySem.F.type_list_append zq5 I ha z G j hs i
section
variable {a b c d e f:ME}(ρ:Ro)(ds:List D)
theorem qal1:z5 a anil ρ=some ds->ds.length=0+1:=zz4 W7 ρ ds
theorem qal2:z5 a (z5 b anil) ρ=some ds->ds.length=0+1+1:=zz4 qal1 ρ ds
theorem qal3:z5 a (z5 b (z5 c anil)) ρ=some ds->ds.length=0+1+1+1:=zz4 qal2 ρ ds
end
theorem qsc {N P:List Str}{sc:Scope}(a:sc.kind= .function:=by rfl)(b:sc.isCoroutine=false:=by rfl)(c:sc.isGenerator=false:=by rfl)(d:N.Nodup:=by decide +kernel)(e:N.take P.length=P:=by rfl)(f:∀ x∈P,sc.names.lookup x=some .local\/sc.names.lookup x=some .cell:=by decide +kernel)(g:∀ y∈sc.names,y.2≠ .free:=by decide +kernel):FnScope N P sc:=⟨a,b,c,d,e,f,g⟩
end
section
section
variable {X:Cx}{a b c e:Expr}{pos:Pos}{st:Stmt}
@[irreducible] noncomputable def G6 (x y:MBm):MBm:=fun ρ=>match x ρ with |some (true,ρ1)=>y ρ1|some (false,ρ1)=>some (false,ρ1)|none=>none
theorem zd5 {ca:MBm}(h:PT X a (TCm X.K ca)):PW X (.BoolOp .And [a] pos) (TCm X.K ca):=xv5 h
theorem zj0 {ca cb:MBm}{rest:List Expr}(ha:PT X a (TCm X.K ca))(I:PW X (.BoolOp .And (b::rest) pos) (TCm X.K cb)):PW X (.BoolOp .And (a::b::rest) pos) (TCm X.K (G6 ca cb)):=(xj7 ha I).imp fun σ H Q j=>by
 let⟨F0,H0,F,ρ,g,ρ',G,e,q⟩:=j
 delta G6 at e
 split at e
 .rename_i ρ1 h1
  show⟨F0,H0,F,ρ,_,ρ1,G,h1,fun F1 H1 i s1=>iteT ⟨F0,H0,F1,ρ1,g,ρ',i,e,fun F2 H2 z s2=>q F2 H2 z (s1.trans s2)⟩⟩
 .rename_i ρ1 h1
  ext e
  show⟨F0,H0,F,ρ,_,_,G,h1,fun F1 H1 i s1=>iteF (q F1 H1 i s1)⟩
 .cases e
theorem xi7 {ca:MBm}(h:PW X a (TCm X.K ca)):PT X a (TCm X.K ca):=h.pt
@[irreducible] noncomputable def cpu (x:MB):MBm:=fun ρ=>match x ρ with |some b=>some (b,ρ)|none=>none
theorem zc5 {ca:MB}(h:PC' X a ca):PT X a (TCm X.K (cpu ca)):=PT.imp h fun σ H Q i=>by
 let⟨F0,H0,F,ρ,g,ρ',z,e,q⟩:=i
 delta cpu at e
 split at e
 .rename_i b h1
  ext e
  show⟨F0,H0,F,_,_,z,h1,fun F1 H1 j=>q F1 H1 (z.go j) j.ff⟩
 .cases e
noncomputable def TIm (K:W.Frag)(mi:MLm):TI:=fun σ H R=>∃ F0 H0 F ρ its ρ1,Rl K F0 H0 F H σ ρ/\mi ρ=some (its,ρ1)/\∀ J F' H',Rl K F0 H0 F' H' σ ρ1->Same F F'->ItD K F' J its->R J H'
@[irreducible] noncomputable def K9 (f:List D->Option (List D))(m:MLm):MLm:=fun ρ=>match m ρ with |some (ds,ρ1)=>(match f ds with |some its=>some (its,ρ1)|none=>none)|none=>none
theorem zy6 {tg a:Expr}{m:MLm}{p pos:Pos}(I:Gl X "range")(hm:X.mg "range"=none)(ha:PAm X [a] m)(hs:starEach [a] X.env=[(false,eval a X.env)]:=by rfl):PI X tg (.Call (.Name "range" p) [a] [] pos) (TIm X.K (K9 rng1 m)):=PI.imp (zq0 I hm ha hs) fun σ H R i=>by
 let⟨F0,H0,F,ρ,its,ρ1,G,e,q⟩:=i
 delta K9 at e
 split at e
 .rename_i ds ρ2 h1
  split at e
  .rename_i its' h2
   ext e
   show⟨F0,H0,F,ρ,ds,_,G,h1,fun vs F1 H1 z s1 r1=>?_⟩
   delta rng1 at h2
   split at h2
   .rename_i j
    split at h2
    .rename_i hk
     ext h2
     delta okR at hk
     simp only[Bool.and_eq_true,decide_eq_true_eq]at hk
     cases r1 with
     |cons r rr=>
      ext rr
      show⟨j,by rw[r.i'],hk.1,hk.2,q _ F1 H1 z s1 B6⟩
    .cases h2
   .cases h2
  .cases e
 .cases e
noncomputable def A4 (k j:Nat)(body:MS):Nat->List (List D)->MS
 |_,[],ρ=>some (.nx ρ)
 |n,ds::dss,ρ=>match body ((ρ.set k (some (.sh (.int n)))).set j (some (.own ds)))with
  |some (.nx ρ2)=>A4 k j body (n+1) dss ρ2
  |some (.ct ρ2)=>A4 k j body (n+1) dss ρ2
  |some (.bk ρ2)=>some (.nx ρ2)
  |o=>o
noncomputable def zb3 (mi:MP)(k j:Nat)(body:MS):MS:=fun ρ=>(mi ρ).bind fun dss=>A4 k j body 0 dss ρ
theorem yt8 {iter:Expr}{body:List Stmt}{mi:MP}{k j:Nat}{p0 cpos:Pos}{es:List Expr}{tk:Nat}{tp:Pos}{mb:MS}(hp:PassesOwn (model X.prog X.w) X.A X.env X.xe)(hc:X.calm=true)(b0:Gl X "enumerate")(az:X.mg "enumerate"=none)(hi:PP X iter mi)(hg:PG X (.Tuple es tk tp) (gTup X.K 2 (yb0 (X3 k) (yb0 (X3 j) gNil))))(N:PSsd X body mb)
  (aj:starEach [iter] X.env=[(false,eval iter X.env)]:=by rfl) (hs:∀ v,foldedSetIterable (.Call (.Name "enumerate" p0) [iter] [] cpos) X.env v=pure v:=by intro _;rfl):PSd X (.For (.Tuple es tk tp) (.Call (.Name "enumerate" p0) [iter] [] cpos) body [] pos) (zb3 mi k j mb):=(zd9 hp hc (zj5 b0 az (j4 hi pa_nil (by rw[aj];rfl)) aj) hg N hs).imp fun Dn σ H am=>by
 let⟨F0,H0,F,ρ,o,rl,e,ok⟩:=am
 delta zb3 at e
 cases h1:mi ρ with
 |none=>rw[h1]at e;ext e
 |some dss=>
  rw[h1]at e
  have e:A4 k j mb 0 dss ρ=some o:=e
  show⟨F0,H0,F,ρ,dss,rl,h1,fun p qs F1 H1 x1 pt=>?_⟩
  have pn:=List.nodup_cons.mp pt.nd
  have ap:H0 p=none:=rl.ext.hh.free pt.hp
  have ae:∀ q∈qs,H0 q=none:=fun q hq=>rl.ext.hh.free (pt.new q hq).1
  have b6:∀ q∈qs,F0 q=none:=fun q hq=>(rl.ext.ff.trans x1.ff).free (pt.new q hq).2
  have sm:∀ A:List Addr,(∀ b∈A,b=p\/b∈qs)->Same H0 (Hx H0 H1 A):=fun A hA b u e=>by
   by_cases N:b∈A
   .rcases hA b N with z|z
    .rw[z,ap]at e;ext e
    .rw[ae b z]at e;ext e
   .rw[J9 N];show e
  have sub:∀ i,∀ b∈p::qs.drop i,b=p\/b∈qs:=fun i b N=>by
   rcases List.mem_cons.mp N with z|z
   .exact .inl z
   .exact .inr (mem_of_mem_drop z)
  show⟨p,_,rfl,SqL.of pt.at',?_⟩
  have G:=rl.go x1
  have ag:Rl X.K F0 (Hx H0 H1 (p::qs.drop 0)) F1 H1 σ ρ:=by
   have fr:∀ b∈p::qs.drop 0,H b=none/\F1 b=none:=fun b N=>by
    rcases sub 0 b N with z|z
    .rw[z];show⟨pt.hp,pt.fp⟩
    .exact pt.new b z
   have ah:∀ b u,H b=some u->b∉p::qs.drop 0:=fun b u e N=>by rw[(fr b N).1]at e;ext e
   show⟨⟨G.ext.ff,fun b u e=>?_,G.ext.fh,fun b e n=>?_,G.ext.nf⟩,G.len,G.sh,fun i ds h=>?_,G.inj,fun i w ds h=>?_,G.obn,G.ob1⟩
   .by_cases N:b∈p::qs.drop 0
    .rw[ze0 N]at e;show e
    .rw[J9 N]at e;show G.ext.hh b u e
   .have nb:b∉p::qs.drop 0:=fun N=>n (fr b N).2
    rw[J9 nb];show G.ext.new b e n
   .let⟨w,xs,a1,a2,a3,a4,a5⟩:=rl.own i ds h
    let⟨w',aq,b1,b2,b3,b4,b5⟩:=G.own i ds h
    rw[a1]at b1;ext b1
    show⟨w,aq,a1,b2,b3,b4,by rw[J9 (ah _ _ a3)];show b5⟩
   .let⟨a1,a2,a3,xs,a4,a5⟩:=rl.ob i w ds h
    let⟨b1,b2,b3,b4⟩:=G.ob i w ds h
    show⟨b1,b2,by rw[J9 (ah _ _ a4)];show b3,b4⟩
  have hn:qs.length=dss.length:=pt.rep.length
  show⟨fun i m a9 H'=>∃ F' ρ',Rl X.K F0 (Hx H0 H1 (p::qs.drop i)) F' H' a9 ρ'/\Same F1 F'/\i<=dss.length/\m=dss.length-i/\A4 k j mb i (dss.drop i) ρ'=some o,⟨_,F1,ρ,ag,Same.refl _,Nat.zero_le _,rfl,e⟩,?_⟩
  clear e ag G
  rintro i m a9 H' ⟨F',ρ',U,sf,b7,rfl,O⟩
  have ad:H' p=some (.lst (qs.map V.ref)):=U.ext.hh p _ (by rw[ze0 mem_cons_self];show pt.at')
  by_cases an:i<dss.length
  .right
   have hd:=getElem?_eq_getElem an
   let⟨q,xs,hq,ac,ay⟩:=pt.rep.get hd
   have ab:q∈qs:=mem_of_getElem? hq
   have a6:qs.drop i=q::qs.drop (i+1):=g7 hq
   have Z:H' q=some (.lst xs):=U.ext.hh q _ (by rw[ze0 (by rw[a6];simp)];show ac)
   have al:F' q=none:=by
    cases z:F' q with
    |none=>rfl
    |some u=>
     have:=U.ext.new q (b6 q ab) (by rw[z];simp)
     rw[ze0 (by rw[a6];simp),ac]at this;ext this
   have ak:(qs.map V.ref)[i]? =some (V.ref q):=by rw[getElem?_map,hq];rfl
   show⟨⟨_,_,SqL.of ad,ak⟩,fun af H2=>∃ F2 I,Rl X.K F0 (Hx H0 H1 (p::qs.drop (i+1))) F2 H2 af I/\Same F1 F2/\A4 k j mb (i+1) (dss.drop (i+1)) I=some o,?_,fun x H2 y=>?_⟩
   .rintro af H2 ⟨F2,I,rl2,sf2,e2⟩
    show⟨dss.length-(i+1),by lia,F2,I,rl2,sf2,an,rfl,e2⟩
   .let⟨t,u,rfl,ht,rfl,y⟩:=y
    have yx:=y _ (SqL.of ad)
    rw[ak]at yx;ext yx
    have aw:(q::qs.drop (i+1)).Nodup:=by rw[<-a6];show pn.2.sublist (drop_sublist _ _)
    have av:q∉p::qs.drop (i+1):=fun z=>by
     rcases List.mem_cons.mp z with z|z
     .exact pn.1 (z ▸ ab)
     .exact(List.nodup_cons.mp aw).1 z
    have au:q∈p::qs.drop i:=by rw[a6];simp
    have ai:Hx H0 H1 (p::qs.drop i) q=some (.lst xs):=by rw[ze0 au];show ac
    have ar:Same (Hx H0 H1 (p::qs.drop (i+1))) (Hx H0 H1 (p::qs.drop i)):=fun b u e=>by
     by_cases N:b∈p::qs.drop (i+1)
     .have a7:b∈p::qs.drop i:=by
       rw[a6]
       rcases List.mem_cons.mp N with z|z
       .rw[z];simp
       .exact mem_cons_of_mem _ (mem_cons_of_mem _ z)
      rw[ze0 N]at e;rw[ze0 a7];show e
     .rw[J9 N]at e
      by_cases a7:b∈p::qs.drop i
      .rcases sub i b a7 with z|z
       .rw[z,ap]at e;ext e
       .rw[ae b z]at e;ext e
      .rw[J9 a7];show e
    have aa:=(U.go (Ext.own (o:=.tup [.int i,.ref q]) U.fh ht)).set (i:=k) (d:=.int i) (.int _)
    have ax:q≠t:=fun z=>by rw[z,ht]at Z;ext Z
    have as:=(aa.less ar).setOwn (i:=j) al (by rw[y4 ax];show Z) (ay.mono sf) (by rw[J9 av];show ae q ab) (fun k es hk e1 e2=>by
     let⟨w,zs,a1,a2,a3,a4,a5⟩:=aa.own k es e1
     rw[a1]at e2;ext e2
     rw[ai]at a5;ext a5) (fun k w es e1 z=>by
     let⟨a1,a2,a3,_⟩:=aa.ob k w es e1
     rw[z,ai]at a3;ext a3)
    rw[g7 hd]at O
    unfold A4 at O
    show⟨t,_,rfl,SqT.of y3,rfl,_,_,rfl,_,_,rfl,rfl,?_⟩
    cases h3:mb ((ρ'.set k (some (.sh (.int i)))).set j (some (.own dss[i])))with
    |none=>simp only[h3]at O;ext O
    |some o1=>
     simp only[h3]at O
     show⟨F0,_,F',_,o1,as,h3,?_⟩
     cases o1 with
     |nx I=>show fun F4 H4 a8 Y s4=>⟨F4,I,Y,sf.trans s4,O⟩
     |ct I=>show fun F4 H4 a8 Y s4=>⟨F4,I,Y,sf.trans s4,O⟩
     |bk I=>
      ext O
      show fun F4 H4 a8 Y s4=>ok F4 H4 a8 (Y.less (sm _ (sub _))) ((x1.ff.trans sf).trans s4)
     |rt d=>ext O;show okO.less (o:=.rt d) (sm _ (sub _)) ok
     |rf d=>ext O;show okO.less (o:=.rf d) (sm _ (sub _)) ok
     |rp d ds=>ext O;show okO.less (o:=.rp d ds) (sm _ (sub _)) ok
     |rg d p r=>ext O;show okO.less (o:=.rg d p r) (sm _ (sub _)) ok
     |rgf d p r=>ext O;show okO.less (o:=.rgf d p r) (sm _ (sub _)) ok
  .left
   have ao:i=dss.length:=by lia
   subst ao
   rw[drop_length]at O
   have O:some (Out.nx ρ')=some o:=O
   ext O
   show⟨⟨_,SqL.of ad,by rw[length_map,hn];show Nat.le_refl _⟩,?_⟩
   show ok F' H' a9 (U.less (sm _ (sub _))) (x1.ff.trans sf)
noncomputable def zb0 (i:Nat):MW:=fun ρ β=>match ρ[i]? with |some (some (.own ds))=>some (.rf ds,β)|_=>none
theorem yg6 (i:Nat){x:Str}{pos':Pos}(h:PE X (.Name x pos') (tVar i)):PSw X (.Return (some (.Name x pos')) pos) (zb0 i):=PS.imp (K5 h) fun D σ H zQ=>by
 let⟨F0,H0,F,ρ,β,o,z,⟨B,fp,j,k⟩,e,ok⟩:=zQ;delta zb0 at e
 split at e
 .rename_i ds h1
  ext e
  let⟨p,xs,e1,e2,e3,I,G⟩:=j.own i _ h1
  show⟨_,e1,ok p xs F H B fp j.ext k G e2 e3 I⟩
 .cases e
end
end
section
section
variable {X:Cx}{st:Stmt}{sts:List Stmt}
end
end
section
section
variable {X:Cx}{a b c e k:Expr}{te:TE}{ma mb:ME}{la lb:ML}{pos p2:Pos}{st:Stmt}
end
end
section
section
variable {X:Cx}{P:Addr}{pos:Pos}{q:Str}{params:Arguments}{body:Expr}{sc:Scope}
end
end
section
section
variable {X:Cx}{pins:List (Addr×Obj)}{σ:St}{H:Hp}{s:Shared}
end
end
section
section
variable {X:Cx}{pins:List (Addr×Obj)}{σ:St}
end
end
section
open Classical in
section
variable {X:Cx}
end
section
variable {P:Program}{w:World}{K:W.Frag}{mg:Str->Option Value}{base:Heap}{nm:Str}{st:Stmt}{ps:List Str}{sp:Sp}{n:Nat}
end
end
section
end
section
noncomputable def insB (B H:Hp)(L:List Addr):Hp:=fun a=>if a∈L then H a else B a
theorem zt2 {B H:Hp}{L:List Addr}{a:Addr}(h:a∈L):insB B H L a=H a:=by delta insB;rw[if_pos h]
theorem E6 {B H:Hp}{L:List Addr}{a:Addr}(h:a∉L):insB B H L a=B a:=by delta insB;rw[if_neg h]
section
variable {K:W.Frag}{F0 H0 F H B:Hp}{σ:St}{ρ:Ro}{β:Bx}{fp:List Addr}
theorem Rl.takeBs {L:List Addr}(j:Rl K F0 (jn H0 B) F H σ ρ)(N:∀ q∈L,H q≠none)(O:∀ q∈L,F q=none)(U:∀ q∈L,jn H0 B q=none)(hn:∀ q∈L,∀(i:Nat) ds,ρ[i]? =some (some (.own ds))->σ[i]? ≠some (some (.ref q)))(I:∀ q∈L,∀(i:Nat) p ds,ρ[i]? =some (some (.ob p ds))->p≠q):Rl K F0 (jn H0 (insB B H L)) F H σ ρ:=by
 have G:∀ b,b∉L->jn H0 (insB B H L) b=jn H0 B b:=fun b I=>by unfold jn;rw[E6 I]
 show⟨⟨j.ext.ff,fun b u e=>?_,j.ext.fh,fun b e n=>?_,j.ext.nf⟩,j.len,j.sh,fun i ds e=>?_,j.inj,fun i p ds e=>?_,j.obn,j.ob1⟩
 .by_cases hq:b∈L
  .have:=N b hq
   unfold jn at e
   rw[zt2 hq]at e
   cases z:H b with
   |none=>show absurd z this
   |some o=>rw[z]at e;show e
  .rw[G b hq]at e;show j.ext.hh b u e
 .have hq:b∉L:=fun z=>n (O b z)
  rw[G b hq];show j.ext.new b e n
 .let⟨p,xs,a1,a2,a3,a4,a5⟩:=j.own i ds e
  show⟨p,xs,a1,a2,a3,a4,by rw[G p (fun z=>hn p z i ds e a1)];show a5⟩
 .let⟨a1,a2,a3,xs,a4,a5⟩:=j.ob i p ds e
  show⟨a1,a2,by rw[G p (fun z=>I p z i p ds e rfl)];show a3,xs,a4,a5⟩
theorem yz1 {B':Hp}:∀{qs:List Addr}{dss:List (List D)},RPs K F H qs dss->(∀ q∈qs,B' q=H q)->FlR K F B' qs (qs.map V.ref) (dss.map .l)
 |_,_,.nil,_=>.nil
 |_,_,.cons h r t,k=>.l (by rw[k _ (by simp)];show h) r (yz1 t fun q i=>k q (mem_cons_of_mem _ i))
theorem RlW.pots {F' H':Hp}{p:Addr}{qs:List Addr}{dss:List (List D)}(I:Rl K F0 (jn H0 B) F H σ ρ)(ok:BxOk K F0 H0 F B fp β)(x:Ext F H F' H')(P:Pots K H F' H' p qs dss):RlW K F0 H0 F' H' σ ρ ((p,.row (dss.map .l))::β)/\B p=none:=by
 have new:∀ q∈p::qs,H q=none/\F' q=none/\H' q≠none:=fun q j=>by
  rcases List.mem_cons.mp j with e|j
  .subst e;show⟨P.hp,P.fp,by rw[P.at'];simp⟩
  .let⟨o,ho⟩:=P.rep.some q j
   show⟨(P.new q j).1,(P.new q j).2,by rw[ho];simp⟩
 have O:∀ q∈p::qs,jn H0 B q=none:=fun q j=>I.ext.hh.free (new q j).1
 have Z:∀ q∈p::qs,B q=none:=fun q j=>(Z8 (O q j)).1
 have N:=(I.go x).takeBs (L:=p::qs) (fun q j=>(new q j).2.2) (fun q j=>(new q j).2.1) O (fun q j i ds e z=>by
  let⟨Y,xs,a1,_,a3,_⟩:=I.own i ds e
  rw[z]at a1;ext a1
  rw[(new q j).1]at a3;ext a3) (fun q j i Y ds e z=>by
  let⟨_,_,_,xs,a4,_⟩:=I.ob i Y ds e
  rw[z,(new q j).1]at a4;ext a4)
 have G:∀ a∈fp,a∉p::qs:=fun a ha z=>ok.bx.mem a ha (Z a z)
 show⟨⟨insB B H' (p::qs),(p::qs)++fp,N,fun a h=>?_,.cons (.row (by rw[zt2 (by simp)];show P.at') (yz1 P.rep fun q j=>zt2 (mem_cons_of_mem _ j))) (ok.bx.mono x.ff fun a ha=>E6 (G a ha)),List.nodup_append.mpr ⟨P.nd,ok.nd,fun a h1 b h2 z=>by subst z;show G a h2 h1⟩,fun a o u h=>?_⟩,Z p (by simp)⟩
 .by_cases j:a∈p::qs
  .exact⟨(Z8 (O a j)).2,I.ext.ff.free (I.fh.free (new a j).1)⟩
  .rw[E6 j]at h;show ok.out a h
 .by_cases j:a∈p::qs
  .rw[zt2 j]at h
   rcases List.mem_cons.mp j with e|j
   .subst e;rw[P.at']at h;ext h
   .let⟨i,hi,hiq⟩:=getElem_of_mem j
    have hr:=P.rep
    have:∃ xs,H' a=some (.lst xs):=by
     clear h
     have U:∀{qs:List Addr}{dss:List (List D)},RPs K F' H' qs dss->a∈qs->∃ xs,H' a=some (.lst xs):=by
      intro qs dss r
      induction r with
      |nil=>intro h;ext h
      |cons h1 _ _ ih=>
       intro h
       rcases List.mem_cons.mp h with e|h
       .subst e;show⟨_,h1⟩
       .exact ih h
     show U hr j
    let⟨xs,e⟩:=this
    rw[e]at h;ext h
  .rw[E6 j]at h;show ok.plain a o u h
theorem FlR.at' {n:Nat}{ds:List D}:∀{n:Nat}{fp:List Addr}{xs:List V}{fs:List Fl},FlR K F B fp xs fs->fp.Nodup->fs[n]? =some (.l ds)->∃ q ys,xs[n]? =some (.ref q)/\q∈fp/\B q=some (.lst ys)/\Reps K F ys ds/\
  ∀(B' F':Hp) i j,Same F F'->B' q=some (.lst i)->Reps K F' i j->(∀ a∈fp,a≠q->B' a=B a)->FlR K F' B' fp xs (fs.set n (.l j))
 |_,_,_,_,.nil,_,e=>by simp at e
 |0,_,_,_,.v _ _,_,e=>by simp at e
 |n+1,_,_,_,.v r t,nd,e=>by
  let⟨q,ys,a1,U,a3,Z,Y⟩:=FlR.at' (n:=n) t nd (by simpa using e)
  show⟨q,ys,by simpa using a1,U,a3,Z,fun B' F' i j G O N I=>.v (r.mono G) (Y B' F' i j G O N I)⟩
 |0,_,_,_,.l (fp:=fp) (q:=q) b r t,nd,e=>by
  simp at e
  subst e
  have hn:=List.nodup_cons.mp nd
  show⟨q,_,rfl,by simp,b,r,fun B' F' i j G O N I=>.l O N (t.mono G fun a ha=>I a (by simp[ha]) fun z=>hn.1 (z ▸ ha))⟩
 |n+1,_,_,_,.l (fp:=fp) (q:=q0) b r t,nd,e=>by
  have hn:=List.nodup_cons.mp nd
  let⟨q,ys,a1,U,a3,Z,Y⟩:=FlR.at' (n:=n) t hn.2 (by simpa using e)
  show⟨q,ys,by simpa using a1,by simp[U],a3,Z,fun B' F' i j G O N I=>.l (by rw[I q0 (by simp) fun z=>hn.1 (z ▸ U)];show b) (r.mono G) (Y B' F' i j G O N fun a ha hq=>I a (by simp[ha]) hq)⟩
end
noncomputable def ye9 (i:Nat)(mp:MP)(rest:MW):MW:=fun ρ β=>(mp ρ).bind fun dss=>anyN β fun x=>(rest (ρ.set i (some (.sh (.ptr x)))) ((x,.row (dss.map .l))::β)).map (letGo i β.length)
section
variable {X:Cx}{a b c e:Expr}{pos:Pos}{st:Stmt}{rest:List Stmt}{E:XK}{es:List Expr}{mf:MFW}{m:ML}
theorem yt4 {i:Nat}{src:List (Option Nat)}{N:ML}{g:Tg}{j:ML}{I:MW}(hS:PS X st (tAsg (M5 src (TId X.K N) (TGd X.K g) (TC X.K cyes) (TF X.K j)) (X3 i)))(hr:PSsw X rest I):PSsw X (st::rest) (ye9 i (Q0 src N g j) I):=PSs.imp (F6 hS hr) fun Dn σ H zQ=>by
 let⟨F0,H0,F,ρ,β,o,O,⟨B,fp,rl,ok⟩,e,k⟩:=zQ;delta ye9 at e
 cases h1:Q0 src N g j ρ with
 |none=>rw[h1]at e;ext e
 |some dss=>
  rw[h1,Option.bind_some]at e
  show M5 src (TId X.K N) (TGd X.K g) (TC X.K cyes) (TF X.K j) σ H (fun v H'=>TSw X.K I Dn (σ.set i (some v)) H')
  show yk8 ⟨F0,jn H0 B,F,ρ,dss,rl,h1,fun p qs F' H' x P=>?_⟩
  let⟨⟨B2,a1,U,Y⟩,Z⟩:=RlW.pots rl ok x P
  have e:=yi6 e p fun z=>ok.bx.keys p z Z
  show TSw X.K I Dn (σ.set i (some (.ref p))) H'
  cases h3:I (ρ.set i (some (.sh (.ptr p)))) ((p,.row (dss.map .l))::β)with
  |none=>rw[h3]at e;ext e
  |some ob=>
   let⟨o1,G⟩:=ob
   rw[h3]at e
   have e:some (letGo i β.length (o1,G))=some (o,O):=e
   have e:=Option.some.inj e
   show⟨F0,H0,F',_,_,o1,G,⟨B2,a1,U.set (.ptr p),Y⟩,h3,okW.letGo (i:=i) (k:=β.length) ?_⟩
   rw[e]
   show k.mono x.ff
noncomputable def setR (a b:Int)(d:D)(fs:List Fl):Option (List Fl):=match ixN fs.length a with
 |some n=>(match fs[n]? with
  |some (.l ds)=>(match ixN ds.length b with |some m=>some (fs.set n (.l (ds.set m d)))|none=>none)
  |_=>none)
 |none=>none
noncomputable def yq9 (i:Nat)(k1 k2:ME)(v:Ro->Bx->Option D):MW:=fun ρ β=>match v ρ β,ρ[i]?,k1 ρ,k2 ρ with
 |some d,some (some (.sh (.ptr p))),some (.int a),some (.int b)=>(match β.lookup p with
  |some (.row fs)=>(setR a b d fs).map fun fs'=>(.nx ρ,updB p (.row fs') β)
  |_=>none)
 |_,_,_,_=>none
theorem yg5 {i:Nat}{k1 k2:ME}{mv:Ro->Bx->Option D}(hE:PS X st (tAsg (TDw X.K mv) (gSub (tOp (rIxL X.K) (tVar i) (TD X.K k1)) (TD X.K k2) xv4))):PSw X st (yq9 i k1 k2 mv):=PS.imp hE fun Dn σ H U=>by
 let⟨F0,H0,F,ρ,β,o,ag,a7,e,k⟩:=U
 delta yq9 at e
 split at e
 .rename_i d p a b h1 hp hk1 hk2
  split at e
  .rename_i fs hb
   cases h2:setR a b d fs with
   |none=>rw[h2]at e;ext e
   |some fs'=>
    rw[h2]at e;ext e
    delta setR at h2
    split at h2
    .rename_i n hn
     split at h2
     .rename_i ds hfs
      split at h2
      .rename_i m hm
       ext h2
       show⟨F0,H0,F,ρ,β,d,a7,h1,fun v F1 H1 r1 s1 _ rp=>?_⟩
       let⟨B,fp,N,ok⟩:=r1
       let⟨w,aa,a6⟩:=N.sh i _ hp
       ext a6
       let⟨fq,hc,nq,ai,up⟩:=ok.bx.upd ok.nd hb
       cases hc with
       |@row fq0 _ xs _ b0 fl=>
        have O:=List.nodup_cons.mp nq
        let⟨q,ys,a1,a2,a3,a4,a5⟩:=FlR.at' (n:=n) fl O.2 hfs
        show⟨_,aa,F0,jn H0 B,F1,ρ,_,N,hk1,fun w2 F2 H2 Z r2=>?_⟩
        ext r2
        have ae:atI xs a=some (.ref q):=by
         delta atI
         rw[fl.length,hn]
         show a1
        show⟨p,xs,a,.ref q,rfl,rfl,SqL.of (Z.hh _ _ (N.ext.hh _ _ (Z7 b0))),ae,F0,jn H0 B,F2,ρ,_,N.go Z,hk2,fun w3 Y H3 x3 r3=>?_⟩
        ext r3
        have I:=(N.go Z).go x3
        show⟨q,ys,b,m,rfl,rfl,I.ext.hh _ _ (Z7 a3),by rw[a4.length];show hm,?_⟩
        let⟨a8,_,ac,ab⟩:=I.putB (a:=q) (o:=.lst (ys.set m v)) ok.out (.inl (by rw[a3];simp))
        have pq:p≠q:=fun z=>O.1 (z ▸ a2)
        have j:Same F1 Y:=Z.ff.trans x3.ff
        have G:CellR X.K Y (upd B q (.lst (ys.set m v))) (p::fq0) p (.row (fs.set n (.l (ds.set m d)))):=.row (by rw[y4 pq];show b0) (a5 _ Y _ _ j y3 ((a4.mono j).set (rp.mono j) m) fun a _ ad=>y4 ad)
        let⟨af,r',a9,ah⟩:=up _ _ _ Y j G nq (fun a _ hn=>y4 fun z=>hn (by rw[z];simp[a2])) fun a ha=>.inl ha
        show k Y _ σ ⟨_,af,a8,xw1 ok.out ⟨ac,ab⟩,r',a9,yv7 ok.plain fun _ _ z=>by cases z⟩ (s1.trans j)
      .cases h2
     .cases h2
    .cases h2
  .cases e
 .cases e
end
end
section
section
variable {X:Cx}{pins:List (Addr×Obj)}{σ:St}
end
section
variable {X:Cx}
end
end
section
section
variable {X:Cx}{pins:List (Addr×Obj)}{σ:St}
end
section
variable {X:Cx}{pos:Pos}
end
end
section
section
variable {X:Cx}{e:Expr}{pos:Pos}{es:List Expr}{m:ML}{mf:MF}{E:XK}
end
section
variable {X:Cx}{pos:Pos}
end
end
section
namespace TS
noncomputable abbrev SM:=StateT SortSt Sem
noncomputable def ky (κ:PyProof.Rows.KeyKind)(x:Keyed):κ.α:=(κ.keyOf x.1).getD κ.dflt
noncomputable def CL (M:Model)(A:Around)(E:Value->Shared->Prop)(s:Shared)(a₀:Array Keyed)(κ:PyProof.Rows.KeyKind)(kd:SortKind):Prop:=
 ∀ x y:Keyed,x∈a₀.toList->y∈a₀.toList->∀(st:SortSt)(Q:Option Bool->SortSt->Prop),kindOf st=kd->Q (some (κ.blt (ky κ x) (ky κ y))) st->wpS M A E s (lt' x y) Q st
section
variable {M:Model}{A:Around}{E:Value->Shared->Prop}{s:Shared}{a₀:Array Keyed}{κ:PyProof.Rows.KeyKind}{kd:SortKind}{st:SortSt}
theorem Z9 {xs:Array Keyed}{i:Nat}{x:Keyed}(h:xs[i]? =some x):KK κ xs i=ky κ x:=by
 unfold KK ky;rw[h]
theorem u8 {arr:Array Keyed}{i:Nat}(h:i<arr.size){Q:Keyed->SortSt->Prop}(q:Q arr[i] st):wpS M A E s (elem' arr i) Q st:=by
 rw[elem'_eq,Array.getElem?_eq_getElem h]
 show wpS_pure q
theorem xm1 (c:CL M A E s a₀ κ kd)(hp:∀ x,x∈(arrOf st).toList->x∈a₀.toList)(G:kindOf st=kd){i j:Nat}(hi:i<(arrOf st).size)(z:j<(arrOf st).size){Q:Option Bool->SortSt->Prop}(q:Q (some (κ.blt (KK κ (arrOf st) i) (KK κ (arrOf st) j))) st):wpS M A E s (ltAt' i j) Q st:=by
 rw[ltAt'_eq]
 show wpS_bind (wpS_get ?_)
 show wpS_bind (u8 hi ?_)
 show wpS_bind (u8 z ?_)
 show c _ _ (hp _ (by simp)) (hp _ (by simp)) _ _ G ?_
 rw[<-Z9 (Array.getElem?_eq_getElem hi),<-Z9 (Array.getElem?_eq_getElem z)]
 show q
theorem t8 {σ β:Type}{st:σ}(a n:Nat)(b:β)(f:Nat->β->StateT σ Sem (ForInStep β))(I:Nat->β->σ->Prop)(Q:β->σ->Prop)
  (z:I (n-a) b st)
  (hs:∀(x r:Nat)(b:β)(st:σ),a<=x->x<n->x+r+1=n->I (r+1) b st->wpS M A E s (f x b) (fun q st'=>match q with | .done b'=>Q b' st'| .yield b'=>I r b' st') st)
  (j:∀ b st,I 0 b st->Q b st):wpS M A E s (forIn [a:n] b f) Q st:=by
 rw[Std.Legacy.Range.forIn_eq_forIn_range']
 have i:([a:n]:Std.Legacy.Range).size=n-a:=by simp[Std.Legacy.Range.size]
 rw[i]
 show wpS_forIn_list _ (fun l b st=>∃ x r,l=List.range' x r/\a<=x/\(r=0\/x+r=n)/\I r b st) _ ?_ ?_ _ _ _ ⟨a,n-a,rfl,Nat.le_refl _,by lia,z⟩
 .rintro x rest b st ⟨x',r,hl,ha,hr,hI⟩
  cases r with
  |zero=>ext hl
  |succ r=>
   rw[List.range'_succ]at hl
   injection hl with e1 e2
   subst e1 e2
   show wpS_mono (hs x r b st ha (by lia) (by lia) hI) fun q st' h=>?_
   cases q with
   |done b'=>show h
   |yield b'=>show⟨x+1,r,rfl,by lia,by lia,h⟩
 .rintro b st ⟨x,r,hl,_,_,hI⟩
  cases r with
  |zero=>show j b st hI
  |succ r=>rw[List.range'_succ]at hl;ext hl
structure SB (a₀:Array Keyed)(kd:SortKind)(st:SortSt):Prop where
 perm:(arrOf st).Perm a₀
 kind:kindOf st=kd
 failed:failedOf st=none
theorem SB.size (h:SB a₀ kd st):(arrOf st).size=a₀.size:=h.perm.size_eq
theorem SB.mem (h:SB a₀ kd st):∀ x,x∈(arrOf st).toList->x∈a₀.toList:=fun x i=>(Array.perm_iff_toList_perm.mp h.perm).mem_iff.mp i
theorem SB.set (h:SB a₀ kd st){xs:Array Keyed}(p:xs.Perm (arrOf st)):SB a₀ kd (setArr st xs):=⟨p.trans h.perm,h.kind,h.failed⟩
theorem SB.lt (h:SB a₀ kd st)(c:CL M A E s a₀ κ kd){i j:Nat}(hi:i<a₀.size)(z:j<a₀.size){Q:Option Bool->SortSt->Prop}(q:Q (some (κ.blt (KK κ (arrOf st) i) (KK κ (arrOf st) j))) st):wpS M A E s (ltAt' i j) Q st:=
 xm1 c h.mem h.kind (h.size ▸ hi) (h.size ▸ z) q
noncomputable def Spl (B:Nat->Bool)(n k:Nat):Prop:=k<=n/\(∀ i,i<k->B i=true)/\∀ i,k<=i->i<n->B i=false
noncomputable def bisM (bey:Nat->SM (Option Bool))(n lo hi:Nat):SM (Option Nat):=do
 let s ← forIn [:n] ((none,lo,hi):Option (Option Nat)×Nat×Nat) fun _ s=>
  if s.2.1 ≥ s.2.2 then pure (.done (none,s.2.1,s.2.2))
  else do
   let r ← bey (s.2.1+(s.2.2-s.2.1) / 2)
   match r with
   |some more=>if more=true then pure (.yield (none,s.2.1+(s.2.2-s.2.1) / 2+1,s.2.2))else pure (.yield (none,s.2.1,s.2.1+(s.2.2-s.2.1) / 2))
   |_=>pure (.done (some none,s.2.1,s.2.2))
 match s.1 with
 |some r=>pure r
 |none=>pure (some s.2.2)
noncomputable def galM (bey:Nat->SM (Option Bool))(n hint:Nat):SM (Option Nat):=do
 let r ← bey hint
 match r with
 |some right=>
  if right=true then do
   let s ← forIn [:n] ((none,0,1):Option (Option Nat)×Nat×Nat) fun _ s=>
    if s.2.2 ≥ n-hint then pure (.done (none,s.2.1,s.2.2))
    else do
     let r ← bey (hint+s.2.2)
     match r with
     |some more=>if (!more)=true then pure (.done (none,s.2.1,s.2.2))else pure (.yield (none,s.2.2,2*s.2.2+1))
     |_=>pure (.done (some none,s.2.1,s.2.2))
   match s.1 with
   |some r=>pure r
   |none=>bisM bey n (hint+s.2.1+1) (hint+min s.2.2 (n-hint))
  else do
   let s ← forIn [:n] ((none,0,1):Option (Option Nat)×Nat×Nat) fun _ s=>
    if s.2.2 ≥ hint+1 then pure (.done (none,s.2.1,s.2.2))
    else do
     let r ← bey (hint-s.2.2)
     match r with
     |some found=>if found=true then pure (.done (none,s.2.1,s.2.2))else pure (.yield (none,s.2.2,2*s.2.2+1))
     |_=>pure (.done (some none,s.2.1,s.2.2))
   match s.1 with
   |some r=>pure r
   |none=>bisM bey n (hint+1-min s.2.2 (hint+1)) (hint-s.2.1)
 |_=>pure none
variable {B:Nat->Bool}{n:Nat}{bey:Nat->SM (Option Bool)}
theorem ya7 (G:∀ i,i<n->∀ Q:Option Bool->SortSt->Prop,Q (some (B i)) st->wpS M A E s (bey i) Q st)(mono:∀ i j,i<=j->j<n->B j=true->B i=true){lo hi:Nat}(h1:lo<=hi)(h2:hi<=n)(z:∀ i,i<lo->B i=true)(hh:∀ i,hi<=i->i<n->B i=false){Q:Option Nat->SortSt->Prop}(q:∀ k,Spl B n k->Q (some k) st):wpS M A E s (bisM bey n lo hi) Q st:=by
 delta bisM
 show wpS_bind (t8 0 n _ _ (fun r b st'=>st'=st/\b.1=none/\b.2.1<=b.2.2/\b.2.2<=n/\b.2.2-b.2.1<=r/\(∀ i,i<b.2.1->B i=true)/\∀ i,b.2.2<=i->i<n->B i=false) _ ⟨rfl,rfl,h1,h2,by dsimp only;lia,z,hh⟩ ?_ ?_)
 .rintro x r ⟨b0,lo,hi⟩ st' _ _ _ ⟨rfl,hb,h1,h2,h3,z,hh⟩
  simp only at hb h1 h2 h3 z hh ⊢
  subst hb
  split
  .exact wpS_pure (wpS_pure (q hi ⟨h2,fun i hi=>z i (by lia),hh⟩))
  .rename_i hlt
   have hm:lo+(hi-lo) / 2<hi:=by lia
   show wpS_bind (G _ (by lia) _ ?_)
   simp only
   cases hv:B (lo+(hi-lo) / 2)with
   |true=>show wpS_pure ⟨rfl,rfl,by dsimp only;lia,h2,by dsimp only;lia,fun i hi=>mono i _ (by dsimp only at hi;lia) (by lia) hv,hh⟩
   |false=>show wpS_pure ⟨rfl,rfl,by dsimp only;lia,by dsimp only;lia,by dsimp only;lia,z,fun i hi hn=>by
     cases h:B i with
     |false=>rfl
     |true=>rw[mono _ i hi hn h]at hv;cases hv⟩
 .rintro⟨b0,lo,hi⟩ st' ⟨rfl,hb,h1,h2,h3,z,hh⟩
  simp only at hb h1 h2 h3 z hh ⊢
  subst hb
  show wpS_pure (q hi ⟨h2,fun i hi=>z i (by lia),hh⟩)
theorem ya6 (O:∀ i,i<n->∀ Q:Option Bool->SortSt->Prop,Q (some (B i)) st->wpS M A E s (bey i) Q st)(mono:∀ i j,i<=j->j<n->B j=true->B i=true){hint:Nat}(hn:hint<n){Q:Option Nat->SortSt->Prop}(q:∀ k,Spl B n k->Q (some k) st):wpS M A E s (galM bey n hint) Q st:=by
 delta galM
 have U:∀ i j,i<=j->j<n->B i=false->B j=false:=fun i j Y Z h=>by
  cases h':B j with
  |false=>rfl
  |true=>rw[mono i j Y Z h']at h;ext h
 show wpS_bind (O _ hn _ ?_)
 cases hv:B hint with
 |true=>
  simp only[if_true]
  have fin:∀ z G,z<G->B (hint+z)=true->hint+z<n->(G ≥ n-hint\/B (hint+G)=false)->wpS M A E s (bisM bey n (hint+z+1) (hint+min G (n-hint))) Q st:=fun lo of h1 h2 N I=>
   ya7 O mono (by lia) (by lia) (fun i hi=>mono i _ (by lia) N h2) (fun i hi hn=>by
    rcases I with I|I
    .lia
    .exact U (hint+of) i (by lia) hn I) q
  show wpS_bind (t8 0 n _ _ (fun r b st'=>st'=st/\b.1=none/\b.2.1<b.2.2/\B (hint+b.2.1)=true/\hint+b.2.1<n/\n<b.2.2+r+1) _ ⟨rfl,rfl,by simp,by simpa using hv,by simpa using hn,by dsimp only;lia⟩ ?_ ?_)
  .rintro x r ⟨b0,lo,of⟩ st' _ _ _ ⟨rfl,hb,h1,h2,N,I⟩
   simp only at hb h1 h2 N I ⊢
   subst hb
   split
   .rename_i hge
    show wpS_pure (fin lo of h1 h2 N (.inl hge))
   .rename_i hge
    show wpS_bind (O _ (by lia) _ ?_)
    simp only
    cases hw:B (hint+of)with
    |false=>show wpS_pure (fin lo of h1 h2 N (.inr hw))
    |true=>show wpS_pure ⟨rfl,rfl,by dsimp only;lia,hw,by dsimp only;lia,by dsimp only;lia⟩
  .rintro⟨b0,lo,of⟩ st' ⟨rfl,hb,h1,h2,N,I⟩
   simp only at hb h1 h2 N I ⊢
   subst hb
   show fin lo of h1 h2 N (.inl (by lia))
 |false=>
  simp only[Bool.false_eq_true,if_false]
  have fin:∀ z G,z<G->z<=hint->B (hint-z)=false->(G ≥ hint+1\/B (hint-G)=true)->wpS M A E s (bisM bey n (hint+1-min G (hint+1)) (hint-z)) Q st:=fun lo of h1 h2 N I=>
   ya7 O mono (by lia) (by lia) (fun i hi=>by
    rcases I with I|I
    .lia
    .exact mono i (hint-of) (by lia) (by lia) I) (fun i hi hn=>U _ i hi hn N) q
  show wpS_bind (t8 0 n _ _ (fun r b st'=>st'=st/\b.1=none/\b.2.1<b.2.2/\b.2.1<=hint/\B (hint-b.2.1)=false/\n<b.2.2+r+1) _ ⟨rfl,rfl,by simp,by simp,by simpa using hv,by dsimp only;lia⟩ ?_ ?_)
  .rintro x r ⟨b0,lo,of⟩ st' _ _ _ ⟨rfl,hb,h1,h2,N,I⟩
   simp only at hb h1 h2 N I ⊢
   subst hb
   split
   .rename_i hge
    show wpS_pure (fin lo of h1 h2 N (.inl hge))
   .rename_i hge
    show wpS_bind (O _ (by lia) _ ?_)
    simp only
    cases hw:B (hint-of)with
    |true=>show wpS_pure (fin lo of h1 h2 N (.inr hw))
    |false=>show wpS_pure ⟨rfl,rfl,by dsimp only;lia,by dsimp only;lia,hw,by dsimp only;lia⟩
  .rintro⟨b0,lo,of⟩ st' ⟨rfl,hb,h1,h2,N,I⟩
   simp only at hb h1 h2 N I ⊢
   subst hb
   show fin lo of h1 h2 N (.inl (by lia))
end
end TS
end
section
namespace TS
section
variable {prog:Program}{w:World}{A:Around}{E:Value->Shared->Prop}{s:Shared}{a₀:Array Keyed}{κ:PyProof.Rows.KeyKind}{kd:SortKind}{st:SortSt}
noncomputable def Seg (κ:PyProof.Rows.KeyKind)(xs:Array Keyed)(lo hi:Nat):Prop:=∀ i j,lo<=i->i<=j->j<hi->κ.kle (KK κ xs i) (KK κ xs j)
noncomputable def NInc (κ:PyProof.Rows.KeyKind)(xs:Array Keyed)(lo hi:Nat):Prop:=∀ i j,lo<=i->i<=j->j<hi->κ.kle (KK κ xs j) (KK κ xs i)
structure Ch (a₀:Array Keyed)(κ:PyProof.Rows.KeyKind)(kd:SortKind)(lo:Nat)(st st':SortSt):Prop where
 sb:SB a₀ kd st'
 pend:pendingOf st'=pendingOf st
 pre:∀ k,k<lo->KK κ (arrOf st') k=KK κ (arrOf st) k
theorem Ch.refl {lo:Nat}(h:SB a₀ kd st):Ch a₀ κ kd lo st st:=⟨h,rfl,fun _ _=>rfl⟩
theorem Ch.trans {lo:Nat}{st' i:SortSt}(h:Ch a₀ κ kd lo st st')(g:Ch a₀ κ kd lo st' i):Ch a₀ κ kd lo st i:=⟨g.sb,g.pend.trans h.pend,fun k j=>(g.pre k j).trans (h.pre k j)⟩
theorem Seg.congr {xs ys:Array Keyed}{lo hi:Nat}(h:Seg κ xs lo hi)(e:∀ k,lo<=k->k<hi->KK κ ys k=KK κ xs k):Seg κ ys lo hi:=fun i j h1 h2 z=>by rw[e i h1 (by lia),e j (by lia) z];show h i j h1 h2 z
theorem Seg.snoc {xs:Array Keyed}{lo hi:Nat}(h:Seg κ xs lo hi)(G:lo<hi)(e:κ.kle (KK κ xs (hi-1)) (KK κ xs hi)):Seg κ xs lo (hi+1):=fun i j h1 h2 I=>by
 rcases Nat.lt_or_ge j hi with z|z
 .exact h i j h1 h2 z
 .have:j=hi:=by lia
  subst this
  rcases Nat.lt_or_ge i j with hi|hi
  .exact KeyOrd.kle_trans (h i (j-1) h1 (by lia) (by lia)) e
  .have:i=j:=by lia
   subst this;show KeyOrd.kle_refl _
theorem NInc.snoc {xs:Array Keyed}{lo hi:Nat}(h:NInc κ xs lo hi)(G:lo<hi)(e:κ.kle (KK κ xs hi) (KK κ xs (hi-1))):NInc κ xs lo (hi+1):=fun i j h1 h2 I=>by
 rcases Nat.lt_or_ge j hi with z|z
 .exact h i j h1 h2 z
 .have:j=hi:=by lia
  subst this
  rcases Nat.lt_or_ge i j with hi|hi
  .exact KeyOrd.kle_trans e (h i (j-1) h1 (by lia) (by lia))
  .have:i=j:=by lia
   subst this;show KeyOrd.kle_refl _
theorem ze5 {i j:Nat}{Q:Unit->SortSt->Prop}(q:Q () (setArr st (mirror (arrOf st) i j ((j-i) / 2)))):wpS (model prog w) A E s (reverseSlice' i j) Q st:=by
 rw[reverseSlice'_eq];show wpS_modify q
theorem Ch.revEq {lo i j:Nat}(h:SB a₀ kd st)(z:j<=a₀.size)(e:∀ k,i<=k->k<j->KK κ (arrOf st) k=KK κ (arrOf st) (j-1)):Ch a₀ κ kd lo st (setArr st (mirror (arrOf st) i j ((j-i) / 2))):=
 ⟨h.set (mirror_perm ..),rfl,fun k G=>KK_mirror_equal (h.size ▸ z) e k⟩
noncomputable def ascM (lo a nrem:Nat):SM (Option (Option Nat)×Nat):=
 forIn [a:nrem] ((none,a):Option (Option Nat)×Nat) fun _ s=>do
  let r ← ltAt' (lo+s.2) (lo+s.2-1)
  match r with
  |some smaller=>if smaller=true then pure (.done (none,s.2))else pure (.yield (none,s.2+1))
  |_=>pure (.done (some none,s.2))
noncomputable def yy5 (lo n nrem:Nat):SM (Option Nat):=do
 reverseSlice' lo (lo+n)
 let s ← ascM lo n nrem
 match s.1 with
 |some r=>pure r
 |none=>pure (some s.2)
noncomputable def xd5 (lo n nrem:Nat):SM (Option (Option Nat)×Nat×Nat):=
 forIn [n:nrem] ((none,n,0):Option (Option Nat)×Nat×Nat) fun _ s=>do
  let r ← ltAt' (lo+s.2.1) (lo+s.2.1-1)
  match r with
  |some smaller=>
   if smaller=true then
    if s.2.2>0 then do
     reverseSlice' (lo+s.2.1-(s.2.2+1)) (lo+s.2.1)
     pure (.yield (none,s.2.1+1,0))
    else pure (.yield (none,s.2.1+1,0))
   else do
    let r ← ltAt' (lo+s.2.1-1) (lo+s.2.1)
    match r with
    |some larger=>if larger=true then pure (.done (none,s.2.1,s.2.2))else pure (.yield (none,s.2.1+1,s.2.2+1))
    |_=>pure (.done (some none,s.2.1,s.2.2))
  |_=>pure (.done (some none,s.2.1,s.2.2))
noncomputable def yw3 (lo n nrem:Nat):SM (Option Nat):=do
 liftM (rule "list.sort.descending-run")
 let s ← xd5 lo (n+1) nrem
 match s.1 with
 |some r=>pure r
 |none=>
  if s.2.2>0 then do
   reverseSlice' (lo+s.2.1-(s.2.2+1)) (lo+s.2.1)
   yy5 lo s.2.1 nrem
  else yy5 lo s.2.1 nrem
theorem zg7 (lo nrem:Nat):countRun' lo nrem=(do
  let s ← ascM lo 1 nrem
  match s.1 with
  |some r=>pure r
  |none=>
   if (s.2==nrem)=true then pure (some s.2)
   else
    if s.2>1 then do
     let r ← ltAt' lo (lo+s.2-1)
     match r with
     |some i=>if i=true then pure (some s.2)else do
       reverseSlice' lo (lo+s.2)
       yw3 lo s.2 nrem
     |_=>pure none
    else yw3 lo s.2 nrem):=by
 unfold countRun'
 show congr (congrArg Bind.bind ?_) (funext fun s=>?_)
 .rfl
 .let⟨s1,s2⟩:=s
  cases s1 with
  |some r=>rfl
  |none=>
   show ite _ _ _=ite _ _ _
   show congrArg (ite _ _) ?_
   show ite _ _ _=ite _ _ _
   show congr (congrArg (ite _) ?_) ?_
   .refine congr (congrArg Bind.bind ?_) (funext fun s=>?_)
    .rfl
    .cases s with
     |none=>rfl
     |some b=>
      show ite _ _ _=ite _ _ _
      show congrArg (ite _ _) ?_
      show congr (congrArg Bind.bind ?_) (funext fun s=>?_)
      .rfl
      .delta yw3
       show congr (congrArg Bind.bind ?_) (funext fun s=>?_)
       .rfl
       .refine congr (congrArg Bind.bind ?_) (funext fun s=>?_)
        .rfl
        .let⟨s1,s2,s3⟩:=s
         cases s1 with
         |some r=>rfl
         |none=>
          show ite _ _ _=ite _ _ _
          show congr (congrArg (ite _) ?_) ?_
          .refine congr (congrArg Bind.bind ?_) (funext fun s=>?_)
           .rfl
           .refine congr (congrArg Bind.bind ?_) (funext fun s=>?_)
            .rfl
            .refine congr (congrArg Bind.bind ?_) (funext fun s=>?_)
             .rfl
             .let⟨s1,s2⟩:=s
              ext s1 <;> rfl
          .refine congr (congrArg Bind.bind ?_) (funext fun s=>?_)
           .rfl
           .refine congr (congrArg Bind.bind ?_) (funext fun s=>?_)
            .rfl
            .let⟨s1,s2⟩:=s
             ext s1 <;> rfl
   .delta yw3
    show congr (congrArg Bind.bind ?_) (funext fun s=>?_)
    .rfl
    .refine congr (congrArg Bind.bind ?_) (funext fun s=>?_)
     .rfl
     .let⟨s1,s2,s3⟩:=s
      cases s1 with
      |some r=>rfl
      |none=>
       show ite _ _ _=ite _ _ _
       show congr (congrArg (ite _) ?_) ?_
       .refine congr (congrArg Bind.bind ?_) (funext fun s=>?_)
        .rfl
        .refine congr (congrArg Bind.bind ?_) (funext fun s=>?_)
         .rfl
         .refine congr (congrArg Bind.bind ?_) (funext fun s=>?_)
          .rfl
          .let⟨s1,s2⟩:=s
           ext s1 <;> rfl
       .refine congr (congrArg Bind.bind ?_) (funext fun s=>?_)
        .rfl
        .refine congr (congrArg Bind.bind ?_) (funext fun s=>?_)
         .rfl
         .let⟨s1,s2⟩:=s
          ext s1 <;> rfl
theorem ya8 {lo a nrem:Nat}(c:CL (model prog w) A E s a₀ κ kd)(h:SB a₀ kd st)(h1:1<=a)(h2:a<=nrem)(j:lo+nrem<=a₀.size)(i:Seg κ (arrOf st) lo (lo+a)){Q:Option (Option Nat)×Nat->SortSt->Prop}
  (q:∀ n,a<=n->n<=nrem->Seg κ (arrOf st) lo (lo+n)->(n=nrem\/κ.klt (KK κ (arrOf st) (lo+n)) (KK κ (arrOf st) (lo+n-1)))->Q (none,n) st):wpS (model prog w) A E s (ascM lo a nrem) Q st:=by
 delta ascM
 show t8 a nrem _ _ (fun r b st'=>st'=st/\b.1=none/\a<=b.2/\b.2+r=nrem/\Seg κ (arrOf st) lo (lo+b.2)) _ ⟨rfl,rfl,Nat.le_refl _,by dsimp only;lia,i⟩ ?_ ?_
 .rintro x r ⟨b0,n⟩ st' _ _ _ ⟨rfl,hb,e1,e2,i⟩
  simp only at hb e1 e2 i ⊢
  subst hb
  show wpS_bind (h.lt c (by lia) (by lia) ?_)
  simp only
  cases hv:κ.blt (KK κ (arrOf st') (lo+n)) (KK κ (arrOf st') (lo+n-1))with
  |true=>show wpS_pure (q n e1 (by lia) i (.inr hv))
  |false=>show wpS_pure ⟨rfl,rfl,by dsimp only;lia,by dsimp only;lia,i.snoc (by lia) hv⟩
 .rintro⟨b0,n⟩ st' ⟨rfl,hb,e1,e2,i⟩
  simp only at hb e1 e2 i ⊢
  subst hb
  show q n e1 (by lia) i (.inl (by lia))
theorem NInc.rev {xs:Array Keyed}{lo n:Nat}(h:NInc κ xs lo (lo+n))(hs:lo+n<=xs.size):Seg κ (mirror xs lo (lo+n) ((lo+n-lo) / 2)) lo (lo+n):=fun i j h1 h2 z=>by
 rw[KK_mirror hs,KK_mirror hs,if_pos ⟨h1,by lia⟩,if_pos ⟨by lia,z⟩]
 show h _ _ (by lia) (by lia) (by lia)
theorem ze4 {lo n nrem:Nat}(c:CL (model prog w) A E s a₀ κ kd)(h:SB a₀ kd st)(h1:1<=n)(h2:n<=nrem)(z:lo+nrem<=a₀.size)(j:NInc κ (arrOf st) lo (lo+n)){Q:Option Nat->SortSt->Prop}
  (q:∀ m st',Ch a₀ κ kd lo st st'->1<=m->m<=nrem->Seg κ (arrOf st') lo (lo+m)->Q (some m) st'):wpS (model prog w) A E s (yy5 lo n nrem) Q st:=by
 delta yy5
 show wpS_bind (ze5 ?_)
 have hs:lo+n<=(arrOf st).size:=by rw[h.size];lia
 have h':=h.set (mirror_perm (arrOf st) lo (lo+n) ((lo+n-lo) / 2))
 show wpS_bind (ya8 c h' h1 h2 z (j.rev hs) fun m m1 m2 i _=>?_)
 show wpS_pure (q m _ ⟨h',rfl,fun k G=>by
  show KK κ (mirror (arrOf st) lo (lo+n) ((lo+n-lo) / 2)) k=_
  rw[KK_mirror hs,if_neg (by lia)]⟩ (by lia) m2 i)
theorem NInc.congr {xs ys:Array Keyed}{lo hi:Nat}(h:NInc κ xs lo hi)(e:∀ k,k<hi->KK κ ys k=KK κ xs k):NInc κ ys lo hi:=fun i j h1 h2 z=>by rw[e i (by lia),e j z];show h i j h1 h2 z
theorem ze7 {lo n nrem:Nat}(c:CL (model prog w) A E s a₀ κ kd)(h:SB a₀ kd st)(h2:n+1<=nrem)(h3:lo+nrem<=a₀.size)(z:NInc κ (arrOf st) lo (lo+(n+1))){Q:Option Nat->SortSt->Prop}
  (q:∀ m st',Ch a₀ κ kd lo st st'->1<=m->m<=nrem->Seg κ (arrOf st') lo (lo+m)->Q (some m) st'):wpS (model prog w) A E s (yw3 lo n nrem) Q st:=by
 delta yw3
 show wpS_bind (wpS_lift (wpAny_rule ⟨rfl,?_⟩))
 have O:∀ m e st',Ch a₀ κ kd lo st st'->m<=nrem->e+1<=m->NInc κ (arrOf st') lo (lo+m)->(∀ k,lo+m-(e+1)<=k->k<lo+m->KK κ (arrOf st') k=KK κ (arrOf st') (lo+m-1))->wpS (model prog w) A E s (if e>0 then do { reverseSlice' (lo+m-(e+1)) (lo+m);yy5 lo m nrem }else yy5 lo m nrem) Q st':=by
  intro m e st' ch m1 m2 z N
  split
  .refine wpS_bind (ze5 ?_)
   have I:=Ch.revEq (κ:=κ) (lo:=lo+nrem) ch.sb (i:=lo+m-(e+1)) (j:=lo+m) (by lia) N
   show ze4 c I.sb (by lia) m1 h3 (z.congr fun k Z=>I.pre k (by lia)) fun m' G c3 b1 b2 sg=>q m' G (ch.trans (Ch.trans ⟨I.sb,I.pend,fun k Z=>I.pre k (by lia)⟩ c3)) b1 b2 sg
  .exact ze4 c ch.sb (by lia) m1 h3 z fun m' G c3 b1 b2 sg=>q m' G (ch.trans c3) b1 b2 sg
 delta xd5
 show wpS_bind (t8 (n+1) nrem _ _ (fun r b st'=>b.1=none/\Ch a₀ κ kd lo st st'/\b.2.1+r=nrem/\b.2.2+1<=b.2.1/\NInc κ (arrOf st') lo (lo+b.2.1)/\(∀ k,lo+b.2.1-(b.2.2+1)<=k->k<lo+b.2.1->KK κ (arrOf st') k=KK κ (arrOf st') (lo+b.2.1-1))) _ ⟨rfl,.refl h,by dsimp only;lia,by dsimp only;lia,z,fun k Y U=>by
   dsimp only at Y U ⊢
   rw[show k=lo+(n+1)-1 by lia]⟩ ?_ ?_)
 .rintro x r ⟨b0,m,e⟩ st' _ _ _ ⟨hb,ch,e1,e2,z,N⟩
  simp only at hb e1 e2 z N ⊢
  subst hb
  show wpS_bind (ch.sb.lt c (by lia) (by lia) ?_)
  simp only
  cases hv:κ.blt (KK κ (arrOf st') (lo+m)) (KK κ (arrOf st') (lo+m-1))with
  |true=>
   simp only[if_true]
   have a1:=z.snoc (by lia) (KeyOrd.kle_of_klt hv)
   split
   .refine wpS_bind (ze5 (wpS_pure ?_))
    have I:=Ch.revEq (κ:=κ) (lo:=lo+nrem) ch.sb (i:=lo+m-(e+1)) (j:=lo+m) (by lia) N
    show⟨rfl,ch.trans ⟨I.sb,I.pend,fun k Z=>I.pre k (by lia)⟩,by dsimp only;lia,by dsimp only;lia,a1.congr fun k Z=>I.pre k (by lia),fun k Y U=>by
     dsimp only at Y U ⊢
     rw[show k=lo+(m+1)-1 by lia]⟩
   .exact wpS_pure ⟨rfl,ch,by dsimp only;lia,by dsimp only;lia,a1,fun k Y U=>by
     dsimp only at Y U ⊢
     rw[show k=lo+(m+1)-1 by lia]⟩
  |false=>
   simp only[Bool.false_eq_true,if_false]
   show wpS_bind (ch.sb.lt c (by lia) (by lia) ?_)
   simp only
   cases hw:κ.blt (KK κ (arrOf st') (lo+m-1)) (KK κ (arrOf st') (lo+m))with
   |true=>show wpS_pure (O m e st' ch (by lia) e2 z N)
   |false=>
    have he:KK κ (arrOf st') (lo+m)=KK κ (arrOf st') (lo+m-1):=KeyOrd.kle_antisymm hw hv
    show wpS_pure ⟨rfl,ch,by dsimp only;lia,by dsimp only;lia,z.snoc (by lia) hw,fun k Y U=>?_⟩
    dsimp only at Y U ⊢
    rw[show lo+(m+1)-1=lo+m by lia]
    rcases Nat.lt_or_ge k (lo+m)with Z|Z
    .rw[N k (by lia) Z,he]
    .rw[show k=lo+m by lia]
 .rintro⟨b0,m,e⟩ st' ⟨hb,ch,e1,e2,z,N⟩
  simp only at hb e1 e2 z N ⊢
  subst hb
  show O m e st' ch (by lia) e2 z N
theorem zk1 {lo nrem:Nat}(c:CL (model prog w) A E s a₀ κ kd)(h:SB a₀ kd st)(h1:1<=nrem)(O:lo+nrem<=a₀.size){Q:Option Nat->SortSt->Prop}
  (q:∀ m st',Ch a₀ κ kd lo st st'->1<=m->m<=nrem->Seg κ (arrOf st') lo (lo+m)->Q (some m) st'):wpS (model prog w) A E s (countRun' lo nrem) Q st:=by
 rw[zg7]
 have s1:Seg κ (arrOf st) lo (lo+1):=fun i j a b d=>by
  rw[show i=j by lia];show KeyOrd.kle_refl _
 show wpS_bind (ya8 c h (Nat.le_refl _) h1 O s1 fun n Z Y G hd=>?_)
 simp only
 split
 .exact wpS_pure (q n st (.refl h) Z Y G)
 .rename_i z
  have z:n≠nrem:=by simpa using z
  have hd:κ.klt (KK κ (arrOf st) (lo+n)) (KK κ (arrOf st) (lo+n-1)):=hd.resolve_left z
  split
  .rename_i hgt
   show wpS_bind (h.lt c (by lia) (by lia) ?_)
   simp only
   cases hv:κ.blt (KK κ (arrOf st) lo) (KK κ (arrOf st) (lo+n-1))with
   |true=>show wpS_pure (q n st (.refl h) Z Y G)
   |false=>
    simp only[Bool.false_eq_true,if_false]
    have U:∀ k,lo<=k->k<lo+n->KK κ (arrOf st) k=KK κ (arrOf st) (lo+n-1):=fun k k1 k2=>KeyOrd.kle_antisymm (G k _ k1 (by lia) (by lia)) (KeyOrd.kle_trans hv (G lo k (Nat.le_refl _) k1 k2))
    show wpS_bind (ze5 ?_)
    have I:=Ch.revEq (κ:=κ) (lo:=lo+nrem) h (i:=lo) (j:=lo+n) (by lia) U
    have N:NInc κ (arrOf st) lo (lo+n):=fun i j a b d=>by rw[U i a (by lia),U j (by lia) d];show KeyOrd.kle_refl _
    show ze7 c I.sb (by lia) O ((N.snoc (by lia) (KeyOrd.kle_of_klt hd)).congr fun k hk=>I.pre k (by lia)) fun m st' c3 b1 b2 G=>q m st' (Ch.trans ⟨I.sb,I.pend,fun k hk=>I.pre k (by lia)⟩ c3) b1 b2 G
  .have:n=1:=by lia
   subst this
   have N:NInc κ (arrOf st) lo (lo+1):=fun i j a b d=>by rw[show i=j by lia];show KeyOrd.kle_refl _
   show ze7 c h (by lia) O (N.snoc (by lia) (KeyOrd.kle_of_klt hd)) q
end
end TS
end
section
namespace TS
section
variable {prog:Program}{w:World}{A:Around}{E:Value->Shared->Prop}{s:Shared}{a₀:Array Keyed}{κ:PyProof.Rows.KeyKind}{kd:SortKind}{st:SortSt}
theorem xm2 {lo n ok:Nat}(c:CL (model prog w) A E s a₀ κ kd)(h:SB a₀ kd st)(h1:1<=ok)(h2:ok<=n)(h3:lo+n<=a₀.size)(G:Seg κ (arrOf st) lo (lo+ok)){Q:Bool->SortSt->Prop}
  (q:∀ st',Ch a₀ κ kd lo st st'->Seg κ (arrOf st') lo (lo+n)->Q true st'):wpS (model prog w) A E s (binarySort' lo n ok) Q st:=by
 rw[binarySort'_eq]
 show wpS_bind (t8 (max ok 1) n _ _ (fun r b st'=>b.1=none/\Ch a₀ κ kd lo st st'/\Seg κ (arrOf st') lo (lo+(n-r))) _ ⟨rfl,.refl h,by rw[show n-(n-max ok 1)=ok by lia];show G⟩ ?_ ?_)
 .rintro k r ⟨b0,b1⟩ st' k1 k2 k3 ⟨hb,ch,G⟩
  simp only at hb G ⊢
  subst hb
  rw[show n-(r+1)=k by lia]at G
  have Y:∀ l,l<=k->(∀ i,i<l->κ.kle (KK κ (arrOf st') (lo+i)) (KK κ (arrOf st') (lo+k)))->(∀ i,l<=i->i<k->κ.kle (KK κ (arrOf st') (lo+k)) (KK κ (arrOf st') (lo+i)))->wpS (model prog w) A E s (do { moveDown' (lo+k) (lo+l);pure (ForInStep.yield ((none,()):Option Bool×Unit)) }) (fun q st'=>match q with | .done b'=>wpS (model prog w) A E s (match b'.1 with |some r=>pure r|none=>pure true) Q st'| .yield b'=>b'.1=none/\Ch a₀ κ kd lo st st'/\Seg κ (arrOf st') lo (lo+(n-r))) st':=by
   intro l hl N I
   rw[moveDown'_eq]
   show wpS_bind (wpS_modify (wpS_pure ?_))
   have hz:lo+k<(arrOf st').size:=by rw[ch.sb.size];lia
   have Z:=KK_bubble (κ:=κ) (xs:=arrOf st') (src:=lo+k) (d:=lo+k-(lo+l)) hz (by lia)
   show⟨rfl,ch.trans ⟨ch.sb.set (bubble_perm ..),rfl,fun i hi=>?_⟩,?_⟩
   .show KK κ (bubble (arrOf st') (lo+k) (lo+k-(lo+l))) i=_
    rw[Z,if_neg (by lia),if_neg (by lia)]
   .show Seg κ (bubble (arrOf st') (lo+k) (lo+k-(lo+l))) lo (lo+(n-r))
    rw[show n-r=k+1 by lia]
    have e:lo+k-(lo+k-(lo+l))=lo+l:=by lia
    rw[e]at Z
    intro i j i1 i2 i3
    rw[Z i,Z j]
    by_cases hi:i=lo+l
    .subst hi
     rw[if_pos rfl]
     by_cases O:j=lo+l
     .rw[if_pos O];show KeyOrd.kle_refl _
     .rw[if_neg O,if_pos ⟨by lia,by lia⟩]
      have:=I (j-1-lo) (by lia) (by lia)
      rwa [show lo+(j-1-lo)=j-1 by lia]at this
    .rw[if_neg hi]
     by_cases U:lo+l<i/\i<=lo+k
     .rw[if_pos U,if_neg (by lia),if_pos ⟨by lia,by lia⟩]
      show G _ _ (by lia) (by lia) (by lia)
     .rw[if_neg U]
      by_cases O:j=lo+l
      .rw[if_pos O]
       have:=N (i-lo) (by lia)
       rwa [show lo+(i-lo)=i by lia]at this
      .rw[if_neg O]
       split
       .exact G _ _ (by lia) (by lia) (by lia)
       .exact G _ _ (by lia) (by lia) (by lia)
  show wpS_bind (t8 0 k _ _ (fun r' b z=>z=st'/\b.1=none/\b.2.1<=b.2.2/\b.2.2<=k/\b.2.2-b.2.1<=r'/\(∀ i,i<b.2.1->κ.kle (KK κ (arrOf st') (lo+i)) (KK κ (arrOf st') (lo+k)))/\(∀ i,b.2.2<=i->i<k->κ.kle (KK κ (arrOf st') (lo+k)) (KK κ (arrOf st') (lo+i)))) _ ⟨rfl,rfl,by dsimp only;lia,by dsimp only;lia,by dsimp only;lia,fun i hi=>absurd hi (Nat.not_lt_zero _),fun i a b=>absurd b (by dsimp only at a;lia)⟩ ?_ ?_)
  .rintro x r' ⟨b0,lo',hi'⟩ z _ _ _ ⟨rfl,hb,e1,e2,e3,N,I⟩
   simp only at hb e1 e2 e3 N I ⊢
   subst hb
   split
   .exact wpS_pure (Y lo' (by lia) N fun i i1 i2=>I i (by lia) i2)
   .refine wpS_bind (ch.sb.lt c (by lia) (by lia) ?_)
    simp only
    cases hv:κ.blt (KK κ (arrOf z) (lo+k)) (KK κ (arrOf z) (lo+(lo'+hi') / 2))with
    |true=>show wpS_pure ⟨rfl,rfl,by dsimp only;lia,by dsimp only;lia,by dsimp only;lia,N,fun i i1 i2=>KeyOrd.kle_trans (KeyOrd.kle_of_klt hv) (G _ _ (by lia) (by dsimp only at i1;lia) (by lia))⟩
    |false=>show wpS_pure ⟨rfl,rfl,by dsimp only;lia,by dsimp only;lia,by dsimp only;lia,fun i i1=>KeyOrd.kle_trans (G _ _ (by lia) (by dsimp only at i1;lia) (by lia)) hv,I⟩
  .rintro⟨b0,lo',hi'⟩ z ⟨rfl,hb,e1,e2,e3,N,I⟩
   simp only at hb e1 e2 e3 N I ⊢
   subst hb
   show Y lo' (by lia) N fun i i1 i2=>I i (by lia) i2
 .rintro⟨b0,b1⟩ st' ⟨hb,ch,G⟩
  simp only at hb G ⊢
  subst hb
  show wpS_pure (q st' ch G)
end
end TS
end
section
namespace TS
section
variable {prog:Program}{w:World}{A:Around}{E:Value->Shared->Prop}{s:Shared}{a₀:Array Keyed}{κ:PyProof.Rows.KeyKind}{kd:SortKind}{st:SortSt}
noncomputable def bey (left:Bool)(key:Keyed)(arr:Array Keyed)(base i:Nat):SM (Option Bool):=do
 let x ← elem' arr (base+i)
 if left=true then lt' x key else do
  let r ← lt' key x
  pure (Option.map (fun x=>!x) r)
noncomputable abbrev GalT:=Bool->Keyed->Array Keyed->Nat->Nat->Nat->SM (Option Nat)
noncomputable def ze1 (g:GalT):Prop:=∀ left key arr base n hint,g left key arr base n hint=galM (bey left key arr base) n hint
theorem zk0 {g:GalT}(Z:ze1 g)(c:CL (model prog w) A E s a₀ κ kd)(U:kindOf st=kd){key:Keyed}{arr:Array Keyed}{base n hint:Nat}(mk:key∈a₀.toList)(ma:∀ x,x∈arr.toList->x∈a₀.toList)(hb:base+n<=arr.size)(G:Seg κ arr base (base+n))(hh:hint<n){Q:Option Nat->SortSt->Prop}
  (q:∀ k,k<=n->(∀ i,i<k->κ.kle (KK κ arr (base+i)) (ky κ key))->(∀ i,k<=i->i<n->κ.klt (ky κ key) (KK κ arr (base+i)))->Q (some k) st):wpS (model prog w) A E s (g false key arr base n hint) Q st:=by
 rw[Z]
 show ya6 (B:=fun i=>!κ.blt (ky κ key) (KK κ arr (base+i))) (fun i hi Q q=>?_) (fun i j Y hj h=>?_) hh fun k zQ=>by let⟨O,N,I⟩:=zQ;show q k O (fun i hi=>by have:=N i hi;simpa[KeyOrd.kle]using this) fun i i1 i2=>by have:=I i i1 i2;simpa[KeyOrd.klt]using this
 .delta bey
  have z:base+i<arr.size:=by lia
  show wpS_bind (u8 z ?_)
  simp only[Bool.false_eq_true,if_false]
  show wpS_bind (c _ _ mk (ma _ (by simp)) _ _ U ?_)
  rw[<-Z9 (Array.getElem?_eq_getElem z)]
  show wpS_pure q
 .simp only[Bool.not_eq_true']at h ⊢
  show KeyOrd.kle_trans (G _ _ (by lia) (by lia) (by lia)) h
theorem zm9 {g:GalT}(Z:ze1 g)(c:CL (model prog w) A E s a₀ κ kd)(U:kindOf st=kd){key:Keyed}{arr:Array Keyed}{base n hint:Nat}(mk:key∈a₀.toList)(ma:∀ x,x∈arr.toList->x∈a₀.toList)(hb:base+n<=arr.size)(G:Seg κ arr base (base+n))(hh:hint<n){Q:Option Nat->SortSt->Prop}
  (q:∀ k,k<=n->(∀ i,i<k->κ.klt (KK κ arr (base+i)) (ky κ key))->(∀ i,k<=i->i<n->κ.kle (ky κ key) (KK κ arr (base+i)))->Q (some k) st):wpS (model prog w) A E s (g true key arr base n hint) Q st:=by
 rw[Z]
 show ya6 (B:=fun i=>κ.blt (KK κ arr (base+i)) (ky κ key)) (fun i hi Q q=>?_) (fun i j Y hj h=>?_) hh fun k zQ=>by let⟨O,N,I⟩:=zQ;show q k O (fun i hi=>N i hi) fun i i1 i2=>I i i1 i2
 .delta bey
  have z:base+i<arr.size:=by lia
  show wpS_bind (u8 z ?_)
  simp only[if_true]
  show c _ _ (ma _ (by simp)) mk _ _ U ?_
  rw[<-Z9 (Array.getElem?_eq_getElem z)]
  show q
 .exact KeyOrd.klt_of_kle_of_klt (G _ _ (by lia) (by lia) (by lia)) h
structure MS (R:Keyed->Keyed->Prop)(tot out la lb:List Keyed):Prop where
 perm:(out++la++lb).Perm tot
 so:out.Pairwise R
 oa:∀ x,x∈out->∀ y,y∈la->R x y
 ob:∀ x,x∈out->∀ y,y∈lb->R x y
variable {R:Keyed->Keyed->Prop}{tot out la lb u:List Keyed}
theorem MS.chA (h:MS R tot out (u++la) lb)(sa:(u++la).Pairwise R)(j:∀ x,x∈u->∀ y,y∈lb->R x y):MS R tot (out++u) la lb:=by
 have G:=List.pairwise_append.mp sa
 show⟨?_,?_,?_,?_⟩
 .have:=h.perm;simpa using this
 .exact List.pairwise_append.mpr ⟨h.so,G.1,fun x j y z=>h.oa x j y (List.mem_append_left _ z)⟩
 .intro x j y z
  rcases List.mem_append.mp j with j|j
  .exact h.oa x j y (List.mem_append_right _ z)
  .exact G.2.2 x j y z
 .intro x i y z
  rcases List.mem_append.mp i with i|i
  .exact h.ob x i y z
  .exact j x i y z
theorem MS.chB (h:MS R tot out la (u++lb))(sb:(u++lb).Pairwise R)(j:∀ x,x∈u->∀ y,y∈la->R x y):MS R tot (out++u) la lb:=by
 have G:=List.pairwise_append.mp sb
 show⟨?_,?_,?_,?_⟩
 .refine List.Perm.trans ?_ h.perm
  rw[List.append_assoc,List.append_assoc,List.append_assoc]
  show List.Perm.append_left _ ?_
  rw[<-List.append_assoc,<-List.append_assoc]
  show List.Perm.append_right _ List.perm_append_comm
 .exact List.pairwise_append.mpr ⟨h.so,G.1,fun x j y z=>h.ob x j y (List.mem_append_left _ z)⟩
 .intro x i y z
  rcases List.mem_append.mp i with i|i
  .exact h.oa x i y z
  .exact j x i y z
 .intro x j y z
  rcases List.mem_append.mp j with j|j
  .exact h.ob x j y (List.mem_append_right _ z)
  .exact G.2.2 x j y z
noncomputable def S9 (R:Keyed->Keyed->Prop)(tot m:List Keyed):Prop:=m.Perm tot/\m.Pairwise R
theorem MS.finA (h:MS R tot out la [])(sa:la.Pairwise R):S9 R tot (out++la):=⟨by simpa using h.perm,List.pairwise_append.mpr ⟨h.so,sa,h.oa⟩⟩
theorem MS.finB (h:MS R tot out [] lb)(sb:lb.Pairwise R):S9 R tot (out++lb):=⟨by simpa using h.perm,List.pairwise_append.mpr ⟨h.so,sb,h.ob⟩⟩
theorem MS.finBA (h:MS R tot out la lb)(sa:la.Pairwise R)(sb:lb.Pairwise R)(z:∀ y,y∈lb->∀ x,x∈la->R y x):S9 R tot (out++lb++la):=
 ⟨List.Perm.trans (by rw[List.append_assoc,List.append_assoc];show List.Perm.append_left _ List.perm_append_comm) h.perm,List.pairwise_append.mpr ⟨List.pairwise_append.mpr ⟨h.so,sb,h.ob⟩,sa,fun x i y j=>by
  rcases List.mem_append.mp i with h'|h'
  .exact h.oa x h' y j
  .exact z x h' y j⟩⟩
noncomputable def Rk (κ:PyProof.Rows.KeyKind)(x y:Keyed):Prop:=κ.kle (ky κ x) (ky κ y)
theorem G8 {a:Array Keyed}(h:Seg κ a 0 a.size):a.toList.Pairwise (Rk κ):=by
 rw[List.pairwise_iff_getElem]
 intro i j hi z G
 have:=h i j (Nat.zero_le _) (by lia) (by simpa using z)
 rwa [Z9 (Array.getElem?_eq_getElem (by simpa using hi)),Z9 (Array.getElem?_eq_getElem (by simpa using z))]at this
theorem ye1 {a:Array Keyed}(h:a.toList.Pairwise (Rk κ)):Seg κ a 0 a.size:=by
 rw[List.pairwise_iff_getElem]at h
 intro i j _ G z
 rcases Nat.lt_or_ge i j with h'|h'
 .have:=h i j (by simp;lia) (by simpa using z) h'
  rw[Z9 (Array.getElem?_eq_getElem (by lia)),Z9 (Array.getElem?_eq_getElem z)]
  show this
 .rw[show i=j by lia];show KeyOrd.kle_refl _
theorem zt4 {a:Array Keyed}{i:Nat}(h:i<a.size):a.toList.drop i=[a[i]]++a.toList.drop (i+1):=by
 rw[List.drop_eq_getElem_cons (by simpa using h)];simp
theorem M0 {l:List Keyed}(i k:Nat):l.drop i=(l.drop i).take k++l.drop (i+k):=by
 rw[<-List.drop_drop,List.take_append_drop]
theorem zx4 {a:Array Keyed}(i:Nat):(a.extract i).toList=a.toList.drop i:=by
 simp[List.take_of_length_le]
theorem yk0 {a:Array Keyed}(i k:Nat):(a.extract i (i+k)).toList=(a.toList.drop i).take k:=by
 simp[Array.toList_extract,List.extract,List.take_drop]
theorem N6 {a:Array Keyed}{i k:Nat}{x:Keyed}(h:x∈(a.toList.drop i).take k):∃ j,j<k/\i+j<a.size/\KK κ a (i+j)=ky κ x:=by
 let⟨j,z,e⟩:=List.getElem_of_mem h
 simp only[List.length_take,List.length_drop,Array.length_toList]at z
 show⟨j,by lia,by lia,?_⟩
 rw[Z9 (Array.getElem?_eq_getElem (by lia)),<-e]
 simp
theorem U6 {a:Array Keyed}{i:Nat}{x:Keyed}(h:x∈a.toList.drop i):∃ j,i<=j/\j<a.size/\KK κ a j=ky κ x:=by
 let⟨j,z,e⟩:=List.getElem_of_mem h
 simp only[List.length_drop,Array.length_toList]at z
 show⟨i+j,by lia,by lia,?_⟩
 rw[Z9 (Array.getElem?_eq_getElem (by lia)),<-e]
 simp
end
end TS
end
section
namespace TS
section
variable {prog:Program}{w:World}{A:Around}{E:Value->Shared->Prop}{s:Shared}{a₀:Array Keyed}{κ:PyProof.Rows.KeyKind}{kd:SortKind}{st:SortSt}
noncomputable def wr (arr:Array Keyed)(sa:Nat)(m:Array Keyed):Array Keyed:=List.foldl (fun a x=>match x with | (p,j)=>a.setIfInBounds (sa+j) p) arr m.toList.zipIdx
noncomputable def E3 (sa:Nat)(m:Array Keyed):SM Bool:=do
 modify fun s=>setArr s (wr (arrOf s) sa m)
 let s ← get
 pure (failedOf s).isNone
noncomputable abbrev MrgT:=Array Keyed->Array Keyed->SM (Array Keyed)
noncomputable def zu5 (g:GalT)(mlo mhi:MrgT)(i:Nat):SM Bool:=do
 let s ← get
 match (pendingOf s)[i]?,(pendingOf s)[i+1]? with
 |some (sa,na,power),some (sb,nb,_)=>do
  set (setPending s (((pendingOf s).setIfInBounds i (sa,na+nb,power)).eraseIdxIfInBounds (i+1)))
  let x ← elem' (arrOf s) sb
  let r ← g false x (arrOf s) sa na 0
  match r with
  |some k=>
   if (na-k==0)=true then pure true
   else do
    let y ← elem' (arrOf s) (sa+k+(na-k)-1)
    let r ← g true y (arrOf s) sb nb (nb-1)
    match r with
    |some nb=>
     if (nb==0)=true then pure true
     else
      if na-k<=nb then do
       let m ← mlo ((arrOf s).extract (sa+k) sb) ((arrOf s).extract sb (sb+nb))
       E3 (sa+k) m
      else do
       let m ← mhi ((arrOf s).extract (sa+k) sb) ((arrOf s).extract sb (sb+nb))
       E3 (sa+k) m
    |_=>pure false
  |_=>pure false
 |_,_=>liftM (unsupported "internal:list.sort.pending")
structure St (st st':SortSt):Prop where
 arr:arrOf st'=arrOf st
 kind:kindOf st'=kindOf st
 pend:pendingOf st'=pendingOf st
 failed:failedOf st'=failedOf st
theorem St.refl (st:SortSt):St st st:=⟨rfl,rfl,rfl,rfl⟩
noncomputable def yh0 (mlo:MrgT):Prop:=∀(prog:Program)(w:World)(A:Around)(E:Value->Shared->Prop)(s:Shared)(a₀:Array Keyed)(κ:PyProof.Rows.KeyKind)(kd:SortKind)(c:CL (model prog w) A E s a₀ κ kd)(st:SortSt)(hk:kindOf st=kd)(a b:Array Keyed),(∀ x,x∈a.toList->x∈a₀.toList)->(∀ x,x∈b.toList->x∈a₀.toList)->Seg κ a 0 a.size->Seg κ b 0 b.size->0<a.size->0<b.size->κ.klt (KK κ b 0) (KK κ a 0)->κ.klt (KK κ b (b.size-1)) (KK κ a (a.size-1))->
 ∀ Q:Array Keyed->SortSt->Prop,(∀ m st',St st st'->S9 (Rk κ) (a.toList++b.toList) m.toList->Q m st')->wpS (model prog w) A E s (mlo a b) Q st
theorem ms0 {R:Keyed->Keyed->Prop}{la lb:List Keyed}:MS R (la++lb) [] la lb:=⟨.refl _,.nil,fun x h=>absurd h (by simp),fun x h=>absurd h (by simp)⟩
theorem v6 {M:Model}{σ α:Type}{p:Prop}[Decidable p]{x y:StateT σ Sem α}{Q:α->σ->Prop}{st:σ}(h1:p->wpS M A E s x Q st)(h2:¬p->wpS M A E s y Q st):wpS M A E s (if p then x else y) Q st:=by
 split
 .exact h1 ‹_›
 .exact h2 ‹_›
noncomputable def Rr (κ:PyProof.Rows.KeyKind)(x y:Keyed):Prop:=Rk κ y x
theorem zh9 {tot m:List Keyed}(h:S9 (Rr κ) tot m.reverse):S9 (Rk κ) tot m:=⟨(List.reverse_perm m).symm.trans h.1,List.pairwise_reverse.mp h.2⟩
theorem MS.finAB {R:Keyed->Keyed->Prop}{tot out la lb:List Keyed}(h:MS R tot out la lb)(sa:la.Pairwise R)(sb:lb.Pairwise R)(i:∀ x,x∈la->∀ y,y∈lb->R x y):S9 R tot (out++la++lb):=by
 have h':=MS.chA (u:=la) (la:=[]) (by simpa using h) (by simpa using sa) i
 show h'.finB sb
theorem zw6 {a:Array Keyed}{i:Nat}(h:i<a.size):(a.toList.take (i+1)).reverse=[a[i]]++(a.toList.take i).reverse:=by
 rw[List.take_succ_eq_append_getElem (by simpa using h)];simp
theorem zw5 {l:List Keyed}{i k:Nat}(h:i<=k):(l.take k).reverse=((l.drop i).take (k-i)).reverse++(l.take i).reverse:=by
 rw[<-List.reverse_append]
 congr 1
 rw[<-List.take_add];congr 1;lia
theorem xy8 {a:Array Keyed}(i k:Nat):((a.extract i k).reverse).toList=((a.toList.drop i).take (k-i)).reverse:=by
 simp[Array.toList_extract,List.extract]
theorem U5 {a:Array Keyed}{i:Nat}{x:Keyed}(h:x∈(a.toList.take i).reverse):∃ j,j<i/\j<a.size/\KK κ a j=ky κ x:=by
 let⟨j,z,e⟩:=List.getElem_of_mem (List.mem_reverse.mp h)
 simp only[List.length_take,Array.length_toList]at z
 show⟨j,by lia,by lia,?_⟩
 rw[Z9 (Array.getElem?_eq_getElem (by lia)),<-e]
 simp
theorem and3 {P Q R:Prop}(p:P)(q:P->Q)(r:P->R):P/\Q/\R:=⟨p,q p,r p⟩
theorem yv5 {M:Model}{σ α:Type}{p:Prop}[Decidable p]{f:Nat->StateT σ Sem α}{x y:Nat}{Q:α->σ->Prop}{st:σ}(h:∀ n,wpS M A E s (f n) Q st):wpS M A E s (if p then f x else f y) Q st:=v6 (fun _=>h _) fun _=>h _
theorem ze6 {M:Model}{σ α X Y:Type}{z:StateT σ Sem α}{Q:α->σ->Prop}{st:σ}(f:X->Y->StateT σ Sem α)(I:X->Y->Prop)(h:∀ x y,I x y->wpS M A E s (f x y) Q st)(k:(∀ x y,I x y->wpS M A E s (f x y) Q st)->wpS M A E s z Q st):wpS M A E s z Q st:=k h
theorem pr5 {T0 Y U O N:Type}{P:T0×Y×U×O×N->Prop}(h:∀ I G z j i,P (I,G,z,j,i)):∀ t,P t:=fun _=>h _ _ _ _ _
theorem pr6 {T0 T1 Z Y U O:Type}{P:T0×T1×Z×Y×U×O->Prop}(h:∀ N I G z j i,P (N,I,G,z,j,i)):∀ t,P t:=fun _=>h _ _ _ _ _ _
theorem pr7 {T0 T1 T2 T3 Z Y U:Type}{P:T0×T1×T2×T3×Z×Y×U->Prop}(h:∀ O N I G z j i,P (O,N,I,G,z,j,i)):∀ t,P t:=fun _=>h _ _ _ _ _ _ _
set_option maxHeartbeats 4000000 in
theorem wz3:∃(g:GalT)(al am:MrgT),(∀ i,mergeAt' i=zu5 g al am i)/\ze1 g/\yh0 al/\yh0 am:=by
 show⟨?g,?lo,?hi,fun i=>?d,and3 ?a ?b ?c⟩
 case d=>
  delta zu5
  show congr (congrArg Bind.bind ?_) (funext fun s=>?_)
  .rfl
  .show _=match (pendingOf s)[i]?,(pendingOf s)[i+1]? with |some (sa,na,ao),some (sb,nb,_)=>_|_,_=>_
   generalize av:(pendingOf s)[i]? =p1
   generalize au:(pendingOf s)[i+1]? =p2
   rcases p1 with _|⟨sa,na,pw⟩
   .rcases p2 with _|⟨sb,nb,_⟩ <;> rfl
   .rcases p2 with _|⟨sb,nb,_⟩
    .rfl
    .refine congr (congrArg Bind.bind ?_) (funext fun _=>?_)
     .rfl
     .refine congr (congrArg Bind.bind ?_) (funext fun x=>?_)
      .rfl
      .refine congr (congrArg Bind.bind ?_) (funext fun r=>?_)
       .exact rfl
       .cases r with
        |none=>rfl
        |some k=>
         show ite _ _ _=ite _ _ _
         show congrArg (ite _ _) ?_
         show congr (congrArg Bind.bind ?_) (funext fun y=>?_)
         .rfl
         .refine congr (congrArg Bind.bind ?_) (funext fun r=>?_)
          .exact rfl
          .cases r with
           |none=>rfl
           |some m=>
            show ite _ _ _=ite _ _ _
            show congrArg (ite _ _) ?_
            show ite _ _ _=ite _ _ _
            show congr (congrArg (ite _) ?_) ?_
            .refine congr (congrArg Bind.bind ?_) (funext fun y=>?_)
             .exact rfl
             .rfl
            .refine congr (congrArg Bind.bind ?_) (funext fun y=>?_)
             .exact rfl
             .rfl
 case a=>
  intro left key arr base n hint
  delta galM
  show congr (congrArg Bind.bind ?_) (funext fun r=>?_)
  .rfl
  .cases r with
   |none=>rfl
   |some right=>
    show ite _ _ _=ite _ _ _
    show congr (congrArg (ite _) ?_) ?_
    .refine congr (congrArg Bind.bind ?_) (funext fun r=>?_)
     .rfl
     .let⟨r1,r2,r3⟩:=r
      cases r1 with
      |some r=>rfl
      |none=>
       delta bisM
       show congr (congrArg Bind.bind ?_) (funext fun r=>?_)
       .rfl
       .let⟨r1,r2,r3⟩:=r
        ext r1 <;> rfl
    .refine congr (congrArg Bind.bind ?_) (funext fun r=>?_)
     .rfl
     .let⟨r1,r2,r3⟩:=r
      cases r1 with
      |some r=>rfl
      |none=>
       delta bisM
       show congr (congrArg Bind.bind ?_) (funext fun r=>?_)
       .rfl
       .let⟨r1,r2,r3⟩:=r
        ext r1 <;> rfl
 case b=>
  intro hg prog w A E s a₀ κ kd c st hk a b ha hb sa sb a1 b1 h0 h9 Q q
  have pa:=G8 sa
  have pb:=G8 sb
  have a2:∀ i,(a.toList.drop i).Pairwise (Rk κ):=fun i=>pa.sublist (List.drop_sublist i _)
  have Z:∀ i,(b.toList.drop i).Pairwise (Rk κ):=fun i=>pb.sublist (List.drop_sublist i _)
  have a5:∀ out I G,MS (Rk κ) (a.toList++b.toList) out.toList (a.toList.drop I) (b.toList.drop G)->G=b.size->S9 (Rk κ) (a.toList++b.toList) (out++a.extract I++b.extract G).toList:=fun out I G j e=>by
   rw[e,show b.toList.drop b.size=[]by simp]at j
   rw[Array.toList_append,Array.toList_append,zx4,zx4,e,show b.toList.drop b.size=[]by simp,List.append_nil]
   show j.finA (a2 _)
  have a6:∀ out I G,MS (Rk κ) (a.toList++b.toList) out.toList (a.toList.drop I) (b.toList.drop G)->I=a.size->S9 (Rk κ) (a.toList++b.toList) (out++a.extract I++b.extract G).toList:=fun out I G j e=>by
   rw[e,show a.toList.drop a.size=[]by simp]at j
   rw[Array.toList_append,Array.toList_append,zx4,zx4,e,show a.toList.drop a.size=[]by simp,List.append_nil]
   show j.finB (Z _)
  have lst:∀ out I G,MS (Rk κ) (a.toList++b.toList) out.toList (a.toList.drop I) (b.toList.drop G)->I+1=a.size->S9 (Rk κ) (a.toList++b.toList) (out++b.extract G++a.extract I).toList:=fun out I G j e=>by
   rw[Array.toList_append,Array.toList_append,zx4,zx4]
   show j.finBA (a2 _) (Z _) fun y hy x hx=>?_
   let⟨i,i1,i2,e1⟩:=U6 (κ:=κ) hy
   let⟨k,k1,k2,e2⟩:=U6 (κ:=κ) hx
   show κ.kle _ _
   rw[<-e1,<-e2,show k=a.size-1 by lia]
   show KeyOrd.kle_trans (sb _ _ (Nat.zero_le _) (by lia) (by lia)) (KeyOrd.kle_of_klt h9)
  have U:∀(out:Array Keyed) I G (h:G<b.size),MS (Rk κ) (a.toList++b.toList) out.toList (a.toList.drop I) (b.toList.drop G)->(∀ i,I<=i->i<a.size->κ.klt (ky κ b[G]) (KK κ a i))->MS (Rk κ) (a.toList++b.toList) (out.push b[G]).toList (a.toList.drop I) (b.toList.drop (G+1)):=fun out I G h j f=>by
   rw[zt4 h]at j
   rw[Array.toList_push]
   show j.chB (by rw[<-zt4 h];show Z _) fun x hx y hy=>?_
   rw[List.mem_singleton.mp hx]
   let⟨k,k1,k2,e2⟩:=U6 (κ:=κ) hy
   show κ.kle _ _
   rw[<-e2];show KeyOrd.kle_of_klt (f k k1 k2)
  have Y:∀(out:Array Keyed) I G (h:I<a.size),MS (Rk κ) (a.toList++b.toList) out.toList (a.toList.drop I) (b.toList.drop G)->(∀ i,G<=i->i<b.size->κ.kle (ky κ a[I]) (KK κ b i))->MS (Rk κ) (a.toList++b.toList) (out.push a[I]).toList (a.toList.drop (I+1)) (b.toList.drop G):=fun out I G h j f=>by
   rw[zt4 h]at j
   rw[Array.toList_push]
   show j.chA (by rw[<-zt4 h];show a2 _) fun x hx y hy=>?_
   rw[List.mem_singleton.mp hx]
   let⟨k,k1,k2,e2⟩:=U6 (κ:=κ) hy
   show κ.kle _ _
   rw[<-e2];show f k k1 k2
  have chA:∀(out:Array Keyed) I G k (h:G<b.size),MS (Rk κ) (a.toList++b.toList) out.toList (a.toList.drop I) (b.toList.drop G)->(∀ i,i<k->κ.kle (KK κ a (I+i)) (ky κ b[G]))->MS (Rk κ) (a.toList++b.toList) (out++a.extract I (I+k)).toList (a.toList.drop (I+k)) (b.toList.drop G):=fun out I G k h j f=>by
   rw[M0 (l:=a.toList) I k]at j
   rw[Array.toList_append,yk0]
   show j.chA (by rw[<-M0];show a2 _) fun x hx y hy=>?_
   let⟨i,i1,i2,e1⟩:=N6 (κ:=κ) hx
   let⟨m,m1,m2,e2⟩:=U6 (κ:=κ) hy
   show κ.kle _ _
   rw[<-e1,<-e2]
   show KeyOrd.kle_trans (f i i1) ?_
   rw[<-Z9 (Array.getElem?_eq_getElem h)]
   show sb _ _ (Nat.zero_le _) m1 m2
  have chB:∀(out:Array Keyed) I G k (h:I<a.size),MS (Rk κ) (a.toList++b.toList) out.toList (a.toList.drop I) (b.toList.drop G)->(∀ i,i<k->κ.klt (KK κ b (G+i)) (ky κ a[I]))->MS (Rk κ) (a.toList++b.toList) (out++b.extract G (G+k)).toList (a.toList.drop I) (b.toList.drop (G+k)):=fun out I G k h j f=>by
   rw[M0 (l:=b.toList) G k]at j
   rw[Array.toList_append,yk0]
   show j.chB (by rw[<-M0];show Z _) fun x hx y hy=>?_
   let⟨i,i1,i2,e1⟩:=N6 (κ:=κ) hx
   let⟨m,m1,m2,e2⟩:=U6 (κ:=κ) hy
   show κ.kle _ _
   rw[<-e1,<-e2]
   show KeyOrd.kle_trans (KeyOrd.kle_of_klt (f i i1)) ?_
   rw[<-Z9 (Array.getElem?_eq_getElem h)]
   show sa _ _ (Nat.zero_le _) m1 m2
  have j0:MS (Rk κ) (a.toList++b.toList) (#[b[0]]:Array Keyed).toList (a.toList.drop 0) (b.toList.drop 1):=by
   have:=U #[] 0 0 b1 (by simpa using ms0) fun i _ h=>by
    rw[<-Z9 (Array.getElem?_eq_getElem b1)]
    show KeyOrd.klt_of_klt_of_kle h0 (sa _ _ (Nat.zero_le _) (Nat.zero_le _) h)
   simpa using this
  show wpS_bind (wpS_lift (wpAny_rule ⟨rfl,?_⟩))
  show wpS_bind (u8 b1 ?_)
  show v6 (fun e=>wpS_pure (q _ _ (.refl _) (a5 _ _ _ j0 (by simpa using e)))) fun e1=>?_
  show v6 (fun e=>wpS_pure (q _ _ (.refl _) (lst _ _ _ j0 (by simpa using e)))) fun e2=>?_
  have e1:1≠b.size:=by simpa using e1
  have e2:0+1≠a.size:=by simpa using e2
  show wpS_bind (wpS_get ?_)
  show wpS_bind (t8 0 (a.size+b.size) _ _ (fun r t st'=>t.1=none/\St st st'/\MS (Rk κ) (a.toList++b.toList) t.2.1.toList (a.toList.drop t.2.2.1) (b.toList.drop t.2.2.2.1)/\t.2.2.1+1<a.size/\t.2.2.2.1<b.size/\a.size+b.size<=t.2.2.1+t.2.2.2.1+r) _ ⟨rfl,.refl _,j0,by dsimp only;lia,by dsimp only;lia,by dsimp only;lia⟩ ?_ ?_)
  .refine fun _ r=>pr5 fun o ak ae ad mg=>?_
   rintro an _ _ _ ⟨N,ah,j1,l1,l2,l3⟩
   simp only at N j1 l1 l2 l3
   subst N
   show wpS_bind (wpS_mono (Q:=fun t st'=>St st st'/\((∃ m,t.1=some m/\S9 (Rk κ) (a.toList++b.toList) m.toList)\/(t.1=none/\MS (Rk κ) (a.toList++b.toList) t.2.1.toList (a.toList.drop t.2.2.1) (b.toList.drop t.2.2.2.1)/\t.2.2.1+1<a.size/\t.2.2.2.1<b.size/\ae+ad+1<=t.2.2.1+t.2.2.2.1))) (t8 0 (a.size+b.size) _ _ (fun r t st'=>t.1=none/\St st st'/\MS (Rk κ) (a.toList++b.toList) t.2.1.toList (a.toList.drop t.2.2.1) (b.toList.drop t.2.2.2.1)/\t.2.2.1+1<a.size/\t.2.2.2.1<b.size/\ae+ad+(a.size+b.size)<=t.2.2.1+t.2.2.2.1+r/\ae+ad<=t.2.2.1+t.2.2.2.1) _ ⟨rfl,ah,j1,l1,l2,by dsimp only;lia,by dsimp only;lia⟩ ?_ ?_) ?_)
   .refine fun _ r=>pr6 fun o out I G ac bc=>?_
    rintro a8 _ _ _ ⟨N,z,j,l1,l2,l3,l4⟩
    simp only at N j l1 l2 l3 l4
    subst N
    have ag:I<a.size:=by lia
    show wpS_bind (u8 l2 ?_)
    show wpS_bind (u8 ag ?_)
    show wpS_bind (c _ _ (hb _ (by simp)) (ha _ (by simp)) _ _ (z.kind.trans hk) ?_)
    cases hv:κ.blt (ky κ b[G]) (ky κ a[I])with
    |true=>
     show wpS_bind (u8 l2 ?_)
     have j':=U out I G l2 j fun i i1 i2=>KeyOrd.klt_of_klt_of_kle hv (by
      rw[<-Z9 (Array.getElem?_eq_getElem ag)]
      show sa _ _ (Nat.zero_le _) i1 i2)
     show v6 (fun e=>wpS_pure ⟨z,.inl ⟨_,rfl,a5 _ _ _ j' (by simpa using e)⟩⟩) fun e=>?_
     have e:G+1≠b.size:=by simpa using e
     show v6 (fun _=>wpS_pure ⟨z,.inr ⟨rfl,j',l1,by dsimp only;lia,by dsimp only;lia⟩⟩) fun _=>wpS_pure ⟨rfl,z,j',l1,by dsimp only;lia,by dsimp only;lia,by dsimp only;lia⟩
    |false=>
     show wpS_bind (u8 ag ?_)
     have j':=Y out I G ag j fun i i1 i2=>KeyOrd.kle_trans hv (by
      rw[<-Z9 (Array.getElem?_eq_getElem l2)]
      show sb _ _ (Nat.zero_le _) i1 i2)
     show v6 (fun e=>wpS_pure ⟨z,.inl ⟨_,rfl,lst _ _ _ j' (by simpa using e)⟩⟩) fun e=>?_
     have e:I+1+1≠a.size:=by simpa using e
     show v6 (fun _=>wpS_pure ⟨z,.inr ⟨rfl,j',by dsimp only;lia,l2,by dsimp only;lia⟩⟩) fun _=>wpS_pure ⟨rfl,z,j',by dsimp only;lia,l2,by dsimp only;lia,by dsimp only;lia⟩
   .refine pr6 fun o out I G ac bc=>?_
    rintro a8 ⟨N,z,j,l1,l2,l3,l4⟩
    show⟨z,.inr ⟨N,j,l1,l2,by dsimp only at l3 ⊢;lia⟩⟩
   .refine pr6 fun o aj as ar ac bc=>?_
    rintro a8 ⟨a9,hh⟩
    rcases hh with⟨m,N,gm⟩|⟨N,j2,l5,l6,l7⟩
    .simp only at N;subst N
     show wpS_pure (wpS_pure (q _ _ a9 gm))
    .simp only at N j2 l5 l6 l7;subst N
     show wpS_bind (wpS_lift (wpAny_rule ⟨rfl,?_⟩))
     show wpS_bind (wpS_mono (Q:=fun t st'=>St st st'/\((∃ m,t.1=some m/\S9 (Rk κ) (a.toList++b.toList) m.toList)\/(t.1=none/\MS (Rk κ) (a.toList++b.toList) t.2.1.toList (a.toList.drop t.2.2.1) (b.toList.drop t.2.2.2.1)/\t.2.2.1+1<a.size/\t.2.2.2.1<b.size/\ae+ad+1<=t.2.2.1+t.2.2.2.1))) (t8 0 (a.size+b.size) _ _ (fun r t st'=>t.1=none/\St st st'/\MS (Rk κ) (a.toList++b.toList) t.2.1.toList (a.toList.drop t.2.2.1) (b.toList.drop t.2.2.2.1)/\t.2.2.1+1<a.size/\t.2.2.2.1<b.size/\ae+ad+1<=t.2.2.1+t.2.2.2.1) _ ⟨rfl,a9,j2,l5,l6,l7⟩ ?_ ?_) ?_)
     .refine fun _ r=>pr7 fun o out I G mg ac bc=>?_
      rintro a7 _ _ _ ⟨N,z,j,l1,l2,l4⟩
      simp only at N j l1 l2 l4
      subst N
      extract_lets _ _ _ _ _ _ _ _ _ _ _ _ jp
      show yv5 (f:=jp ()) fun mg=>?_
      dsimp -zeta +zetaDelta only
      show wpS_bind (wpS_modify ?_)
      show wpS_bind (u8 l2 ?_)
      show wpS_bind (zk0 (base:=I) (n:=a.size-I) (hint:=0) hg c (by show z.kind.trans hk) (hb _ (Array.getElem_mem_toList l2)) ha (by lia) (fun i j i1 i2 i3=>sa i j (Nat.zero_le _) i2 (by lia)) (by lia) fun k k1 k2 k3=>?_)
      have jA:=chA _ _ _ k l2 j k2
      dsimp -zeta only
      extract_lets _ jp
      show ze6 (jp ()) (fun out k=>I<=k/\k+1<a.size/\MS (Rk κ) (a.toList++b.toList) out.toList (a.toList.drop k) (b.toList.drop G)/\∀ i,k<=i->i<a.size->κ.klt (ky κ b[G]) (KK κ a i)) (fun out k h=>?_) fun K=>v6 (fun hp=>v6 (fun e=>wpS_pure ⟨⟨z.1,z.2,z.3,z.4⟩,.inl ⟨_,rfl,lst _ _ _ jA (by simpa using e)⟩⟩) fun e1=>v6 (fun e=>wpS_pure ⟨⟨z.1,z.2,z.3,z.4⟩,.inl ⟨_,rfl,a6 _ _ _ jA (by simpa using e)⟩⟩) fun e2=>K _ _ ⟨by lia,?_,jA,fun i i1 i2=>?_⟩) fun hn=>K _ _ ⟨by lia,by lia,j,fun i i1 i2=>?_⟩
      rotate_left
      .have e1:I+k+1≠a.size:=by simpa using e1
       have e2:I+k≠a.size:=by simpa using e2
       lia
      iterate 2
       .have:=k3 (i-I) (by lia) (by lia)
        rwa [show I+(i-I)=i by lia]at this
      let⟨x1,x2,jx,fx⟩:=h
      have a4:k<a.size:=by lia
      show wpS_bind (u8 l2 ?_)
      have jy:=U _ _ _ l2 jx fx
      show v6 (fun e=>wpS_pure ⟨⟨z.1,z.2,z.3,z.4⟩,.inl ⟨_,rfl,a5 _ _ _ jy (by simpa using e)⟩⟩) fun e=>?_
      have e:G+1≠b.size:=by simpa using e
      show wpS_bind (u8 a4 ?_)
      show wpS_bind (zm9 (base:=G+1) (n:=b.size-(G+1)) (hint:=0) hg c (by show z.kind.trans hk) (ha _ (Array.getElem_mem_toList a4)) hb (by lia) (fun i j i1 i2 i3=>sb i j (Nat.zero_le _) i2 (by lia)) (by lia) fun k' m1 m2 m3=>?_)
      have jB:=chB _ _ _ k' a4 jy m2
      dsimp -zeta only
      extract_lets _ _ jp
      show ze6 (jp ()) (fun out m=>G+1<=m/\m<b.size/\MS (Rk κ) (a.toList++b.toList) out.toList (a.toList.drop k) (b.toList.drop m)/\∀ i,m<=i->i<b.size->κ.kle (ky κ a[k]) (KK κ b i)) (fun out m h=>?_) fun K=>v6 (fun hp=>v6 (fun e=>wpS_pure ⟨⟨z.1,z.2,z.3,z.4⟩,.inl ⟨_,rfl,a5 _ _ _ jB (by simpa using e)⟩⟩) fun e1=>K _ _ ⟨by lia,?_,jB,fun i i1 i2=>?_⟩) fun hn=>K _ _ ⟨by lia,by lia,jy,fun i i1 i2=>?_⟩
      rotate_left
      .have e1:G+1+k'≠b.size:=by simpa using e1
       lia
      iterate 2
       .have:=m3 (i-(G+1)) (by lia) (by lia)
        rwa [show G+1+(i-(G+1))=i by lia]at this
      let⟨y1,y2,jz,fz⟩:=h
      show wpS_bind (u8 a4 ?_)
      have jw:=Y _ _ _ a4 jz fz
      show v6 (fun e=>wpS_pure ⟨⟨z.1,z.2,z.3,z.4⟩,.inl ⟨_,rfl,lst _ _ _ jw (by simpa using e)⟩⟩) fun e=>?_
      have e:k+1+1≠a.size:=by simpa using e
      show v6 (fun _=>wpS_pure ⟨⟨z.1,z.2,z.3,z.4⟩,.inr ⟨rfl,jw,?_,y2,?_⟩⟩) fun _=>wpS_pure ⟨rfl,⟨z.1,z.2,z.3,z.4⟩,jw,?_,y2,?_⟩
      all_goals dsimp only;lia
     .refine pr7 fun o out I G mg ac bc=>?_
      rintro a7 ⟨N,z,j,l1,l2,l4⟩
      show⟨z,.inr ⟨N,j,l1,l2,l4⟩⟩
     .refine pr7 fun o out I G mg ac bc=>?_
      rintro a7 ⟨z,hh⟩
      rcases hh with⟨m,N,gm⟩|⟨N,j,l8,l9,ai⟩
      .simp only at N;subst N
       show wpS_pure (wpS_pure (q _ _ z gm))
      .simp only at N j l8 l9 ai;subst N
       show wpS_bind (wpS_modify (wpS_pure ⟨rfl,⟨z.1,z.2,z.3,z.4⟩,j,l8,l9,by dsimp only;lia⟩))
  .refine pr5 fun o out I G mg=>?_
   rintro st' ⟨N,z,j,l1,l2,l3⟩
   simp only at l1 l2 l3
   lia
 case c=>
  intro hg prog w A E s a₀ κ kd c st hk a b ha hb sa sb a1 b1 h0 h9 Q q
  have pa:=G8 sa
  have pb:=G8 sb
  have a2:∀ i,((a.toList.take i).reverse).Pairwise (Rr κ):=fun i=>List.pairwise_reverse.mpr (pa.sublist (List.take_sublist i _))
  have Z:∀ i,((b.toList.take i).reverse).Pairwise (Rr κ):=fun i=>List.pairwise_reverse.mpr (pb.sublist (List.take_sublist i _))
  have a6:∀(out:Array Keyed) na nb,MS (Rr κ) (a.toList++b.toList) out.toList (a.toList.take na).reverse (b.toList.take nb).reverse->na=0->S9 (Rk κ) (a.toList++b.toList) (a.extract 0 na++b.extract 0 nb++out.reverse).toList:=fun out na nb j e=>zh9 (by
   subst e
   have:=j.finB (by simpa using Z nb)
   simpa using this)
  have a5:∀(out:Array Keyed) na nb,MS (Rr κ) (a.toList++b.toList) out.toList (a.toList.take na).reverse (b.toList.take nb).reverse->nb=0->S9 (Rk κ) (a.toList++b.toList) (a.extract 0 na++b.extract 0 nb++out.reverse).toList:=fun out na nb j e=>zh9 (by
   subst e
   have:=MS.finA (by simpa using j) (a2 na)
   simpa using this)
  have lst:∀(out:Array Keyed) na nb,MS (Rr κ) (a.toList++b.toList) out.toList (a.toList.take na).reverse (b.toList.take nb).reverse->nb=1->S9 (Rk κ) (a.toList++b.toList) (b.extract 0 nb++a.extract 0 na++out.reverse).toList:=fun out na nb j e=>zh9 (by
   subst e
   have:=j.finAB (a2 na) (Z 1) fun x hx y hy=>by
    let⟨i,i1,i2,e1⟩:=U5 (κ:=κ) hx
    let⟨m,m1,m2,e2⟩:=U5 (κ:=κ) hy
    show κ.kle _ _
    rw[<-e1,<-e2,show m=0 by lia]
    show KeyOrd.kle_trans (KeyOrd.kle_of_klt h0) (sa _ _ (Nat.zero_le _) (Nat.zero_le _) i2)
   simpa using this)
  have Y:∀(out:Array Keyed) na nb (h:na<a.size),MS (Rr κ) (a.toList++b.toList) out.toList (a.toList.take (na+1)).reverse (b.toList.take nb).reverse->(∀ i,i<nb->i<b.size->κ.kle (KK κ b i) (ky κ a[na]))->MS (Rr κ) (a.toList++b.toList) (out.push a[na]).toList (a.toList.take na).reverse (b.toList.take nb).reverse:=fun out na nb h j f=>by
   rw[zw6 h]at j
   rw[Array.toList_push]
   show j.chA (by rw[<-zw6 h];show a2 _) fun x hx y hy=>?_
   rw[List.mem_singleton.mp hx]
   let⟨k,k1,k2,e2⟩:=U5 (κ:=κ) hy
   show κ.kle _ _
   rw[<-e2];show f k k1 k2
  have U:∀(out:Array Keyed) na nb (h:nb<b.size),MS (Rr κ) (a.toList++b.toList) out.toList (a.toList.take na).reverse (b.toList.take (nb+1)).reverse->(∀ i,i<na->i<a.size->κ.kle (KK κ a i) (ky κ b[nb]))->MS (Rr κ) (a.toList++b.toList) (out.push b[nb]).toList (a.toList.take na).reverse (b.toList.take nb).reverse:=fun out na nb h j f=>by
   rw[zw6 h]at j
   rw[Array.toList_push]
   show j.chB (by rw[<-zw6 h];show Z _) fun x hx y hy=>?_
   rw[List.mem_singleton.mp hx]
   let⟨k,k1,k2,e2⟩:=U5 (κ:=κ) hy
   show κ.kle _ _
   rw[<-e2];show f k k1 k2
  have chA:∀(out:Array Keyed) na nb k (hk:k<=na) (h:nb-1<b.size) (h':na<=a.size),MS (Rr κ) (a.toList++b.toList) out.toList (a.toList.take na).reverse (b.toList.take nb).reverse->(∀ i,k<=i->i<na->κ.klt (ky κ b[nb-1]) (KK κ a i))->MS (Rr κ) (a.toList++b.toList) (out++(a.extract k na).reverse).toList (a.toList.take k).reverse (b.toList.take nb).reverse:=fun out na nb k hk h h' j f=>by
   rw[zw5 (l:=a.toList) hk]at j
   rw[Array.toList_append,xy8]
   show j.chA (by rw[<-zw5 hk];show a2 _) fun x hx y hy=>?_
   let⟨i,i1,i2,e1⟩:=N6 (κ:=κ) (List.mem_reverse.mp hx)
   let⟨m,m1,m2,e2⟩:=U5 (κ:=κ) hy
   show κ.kle _ _
   rw[<-e1,<-e2]
   show KeyOrd.kle_trans ?_ (KeyOrd.kle_of_klt (f (k+i) (by lia) (by lia)))
   rw[<-Z9 (Array.getElem?_eq_getElem h)]
   show sb _ _ (Nat.zero_le _) (by lia) h
  have chB:∀(out:Array Keyed) na nb k (hk:k<=nb) (h:na-1<a.size) (h':nb<=b.size),MS (Rr κ) (a.toList++b.toList) out.toList (a.toList.take na).reverse (b.toList.take nb).reverse->(∀ i,k<=i->i<nb->κ.kle (ky κ a[na-1]) (KK κ b i))->MS (Rr κ) (a.toList++b.toList) (out++(b.extract k nb).reverse).toList (a.toList.take na).reverse (b.toList.take k).reverse:=fun out na nb k hk h h' j f=>by
   rw[zw5 (l:=b.toList) hk]at j
   rw[Array.toList_append,xy8]
   show j.chB (by rw[<-zw5 hk];show Z _) fun x hx y hy=>?_
   let⟨i,i1,i2,e1⟩:=N6 (κ:=κ) (List.mem_reverse.mp hx)
   let⟨m,m1,m2,e2⟩:=U5 (κ:=κ) hy
   show κ.kle _ _
   rw[<-e1,<-e2]
   show KeyOrd.kle_trans ?_ (f (k+i) (by lia) (by lia))
   rw[<-Z9 (Array.getElem?_eq_getElem h)]
   show sa _ _ (Nat.zero_le _) (by lia) h
  have hl:a.size-1<a.size:=by lia
  have j0:MS (Rr κ) (a.toList++b.toList) (#[a[a.size-1]]:Array Keyed).toList (a.toList.take (a.size-1)).reverse (b.toList.take b.size).reverse:=by
   have:=Y #[] (a.size-1) b.size hl (by
    rw[show a.size-1+1=a.size by lia]
    have:MS (Rr κ) (a.toList++b.toList) [] a.toList.reverse b.toList.reverse:=⟨((List.reverse_perm _).append (List.reverse_perm _)),.nil,fun x h=>absurd h (by simp),fun x h=>absurd h (by simp)⟩
    rw[List.take_of_length_le (l:=a.toList) (by simp),List.take_of_length_le (l:=b.toList) (by simp)]
    show this) fun i _ h=>by
    rw[<-Z9 (Array.getElem?_eq_getElem hl)]
    show KeyOrd.kle_trans (sb _ _ (Nat.zero_le _) (by lia) (by lia)) (KeyOrd.kle_of_klt h9)
   simpa using this
  show wpS_bind (wpS_lift (wpAny_rule ⟨rfl,?_⟩))
  show wpS_bind (u8 hl ?_)
  show v6 (fun e=>wpS_pure (q _ _ (.refl _) (a6 _ _ _ j0 (by simpa using e)))) fun e1=>?_
  show v6 (fun e=>wpS_pure (q _ _ (.refl _) (lst _ _ _ j0 (by simpa using e)))) fun e2=>?_
  have e1:a.size-1≠0:=by simpa using e1
  have e2:b.size≠1:=by simpa using e2
  show wpS_bind (wpS_get ?_)
  show wpS_bind (t8 0 (a.size+b.size) _ _ (fun r t st'=>t.1=none/\St st st'/\MS (Rr κ) (a.toList++b.toList) t.2.2.2.1.toList (a.toList.take t.2.1).reverse (b.toList.take t.2.2.1).reverse/\(0<t.2.1/\t.2.1<=a.size)/\(1<t.2.2.1/\t.2.2.1<=b.size)/\t.2.1+t.2.2.1<=r) _ ⟨rfl,.refl _,j0,by dsimp only;lia,by dsimp only;lia,by dsimp only;lia⟩ ?_ ?_)
  .refine fun _ r=>pr5 fun o ab aa ak mg=>?_
   rintro an _ _ _ ⟨N,ah,j1,l1,l2,l3⟩
   simp only at N j1 l1 l2 l3
   subst N
   show wpS_bind (wpS_mono (Q:=fun t st'=>St st st'/\((∃ m,t.1=some m/\S9 (Rk κ) (a.toList++b.toList) m.toList)\/(t.1=none/\MS (Rr κ) (a.toList++b.toList) t.2.2.2.1.toList (a.toList.take t.2.1).reverse (b.toList.take t.2.2.1).reverse/\(0<t.2.1/\t.2.1<=a.size)/\(1<t.2.2.1/\t.2.2.1<=b.size)/\t.2.1+t.2.2.1+1<=ab+aa))) (t8 0 (a.size+b.size) _ _ (fun r t st'=>t.1=none/\St st st'/\MS (Rr κ) (a.toList++b.toList) t.2.2.2.1.toList (a.toList.take t.2.1).reverse (b.toList.take t.2.2.1).reverse/\(0<t.2.1/\t.2.1<=a.size)/\(1<t.2.2.1/\t.2.2.1<=b.size)/\t.2.1+t.2.2.1+(a.size+b.size)<=ab+aa+r/\t.2.1+t.2.2.1<=ab+aa) _ ⟨rfl,ah,j1,l1,l2,by dsimp only;lia,by dsimp only;lia⟩ ?_ ?_) ?_)
   .refine fun _ r=>pr6 fun o na nb out ac bc=>?_
    rintro a8 _ _ _ ⟨N,z,j,l1,l2,l3,l4⟩
    simp only at N j l1 l2 l3 l4
    subst N
    obtain⟨na,rfl⟩:∃ n,na=n+1:=⟨na-1,by lia⟩
    obtain⟨nb,rfl⟩:∃ n,nb=n+1:=⟨nb-1,by lia⟩
    have a3:na<a.size:=by lia
    have O:nb<b.size:=by lia
    show wpS_bind (u8 O ?_)
    show wpS_bind (u8 a3 ?_)
    show wpS_bind (c _ _ (hb _ (by simp)) (ha _ (by simp)) _ _ (z.kind.trans hk) ?_)
    cases hv:κ.blt (ky κ b[nb]) (ky κ a[na])with
    |true=>
     show wpS_bind (u8 a3 ?_)
     have j':=Y out na (nb+1) a3 j fun i i1 i2=>KeyOrd.kle_trans (by
      rw[<-Z9 (Array.getElem?_eq_getElem O)]
      show sb i nb (Nat.zero_le _) (by lia) O) (KeyOrd.kle_of_klt hv)
     show v6 (fun e=>wpS_pure ⟨z,.inl ⟨_,rfl,a6 _ _ _ j' (by simpa using e)⟩⟩) fun e=>?_
     have e:¬ (_:Nat)=0:=fun h=>e (beq_iff_eq.mpr h)
     try dsimp only at e
     show v6 (fun _=>wpS_pure ⟨z,.inr ⟨rfl,j',by dsimp only;lia,l2,by dsimp only;lia⟩⟩) fun _=>wpS_pure ⟨rfl,z,j',by dsimp only;lia,l2,by dsimp only;lia,by dsimp only;lia⟩
    |false=>
     show wpS_bind (u8 O ?_)
     have j':=U out (na+1) nb O j fun i i1 i2=>KeyOrd.kle_trans (by
      rw[<-Z9 (Array.getElem?_eq_getElem a3)]
      show sa i na (Nat.zero_le _) (by lia) a3) hv
     show v6 (fun e=>wpS_pure ⟨z,.inl ⟨_,rfl,lst _ _ _ j' (by simpa using e)⟩⟩) fun e=>?_
     have e:¬ (_:Nat)=1:=fun h=>e (beq_iff_eq.mpr h)
     try dsimp only at e
     show v6 (fun _=>wpS_pure ⟨z,.inr ⟨rfl,j',l1,by dsimp only;lia,by dsimp only;lia⟩⟩) fun _=>wpS_pure ⟨rfl,z,j',l1,by dsimp only;lia,by dsimp only;lia,by dsimp only;lia⟩
   .refine pr6 fun o na nb out ac bc=>?_
    rintro a8 ⟨N,z,j,l1,l2,l3,l4⟩
    show⟨z,.inr ⟨N,j,l1,l2,by dsimp only at l3 ⊢;lia⟩⟩
   .refine pr6 fun o aq ap aj ac bc=>?_
    rintro a8 ⟨a9,hh⟩
    rcases hh with⟨m,N,gm⟩|⟨N,j2,l5,l6,l7⟩
    .simp only at N;subst N
     show wpS_pure (wpS_pure (q _ _ a9 gm))
    .simp only at N j2 l5 l6 l7;subst N
     show wpS_bind (wpS_lift (wpAny_rule ⟨rfl,?_⟩))
     show wpS_bind (wpS_mono (Q:=fun t st'=>St st st'/\((∃ m,t.1=some m/\S9 (Rk κ) (a.toList++b.toList) m.toList)\/(t.1=none/\MS (Rr κ) (a.toList++b.toList) t.2.2.2.1.toList (a.toList.take t.2.1).reverse (b.toList.take t.2.2.1).reverse/\(0<t.2.1/\t.2.1<=a.size)/\(1<t.2.2.1/\t.2.2.1<=b.size)/\t.2.1+t.2.2.1+1<=ab+aa))) (t8 0 (a.size+b.size) _ _ (fun r t st'=>t.1=none/\St st st'/\MS (Rr κ) (a.toList++b.toList) t.2.2.2.1.toList (a.toList.take t.2.1).reverse (b.toList.take t.2.2.1).reverse/\(0<t.2.1/\t.2.1<=a.size)/\(1<t.2.2.1/\t.2.2.1<=b.size)/\t.2.1+t.2.2.1+1<=ab+aa) _ ⟨rfl,a9,j2,l5,l6,l7⟩ ?_ ?_) ?_)
     .refine fun _ r=>pr7 fun o na nb out mg ac bc=>?_
      rintro a7 _ _ _ ⟨N,z,j,l1,l2,l4⟩
      simp only at N j l1 l2 l4
      subst N
      have O:nb-1<b.size:=by lia
      extract_lets _ _ _ _ _ _ _ _ _ _ _ _ jp
      show yv5 (f:=jp ()) fun mg=>?_
      dsimp -zeta +zetaDelta only
      show wpS_bind (wpS_modify ?_)
      show wpS_bind (u8 O ?_)
      show wpS_bind (zk0 (base:=0) (n:=na) (hint:=na-1) hg c (by show z.kind.trans hk) (hb _ (Array.getElem_mem_toList O)) ha (by lia) (fun i j i1 i2 i3=>sa i j (Nat.zero_le _) i2 (by lia)) (by lia) fun k k1 k2 k3=>?_)
      simp only[Nat.zero_add]at k2 k3
      have jA:=chA _ _ _ k k1 O (by lia) j k3
      dsimp -zeta only
      extract_lets _ _ jp
      show ze6 (jp ()) (fun m out=>m<=na/\0<m/\MS (Rr κ) (a.toList++b.toList) out.toList (a.toList.take m).reverse (b.toList.take nb).reverse/\∀ i,i<m->i<a.size->κ.kle (KK κ a i) (ky κ b[nb-1])) (fun m out h=>?_) fun K=>v6 (fun hp=>v6 (fun e=>wpS_pure ⟨⟨z.1,z.2,z.3,z.4⟩,.inl ⟨_,rfl,a6 _ _ _ jA (by simpa using e)⟩⟩) fun e1=>K _ _ ⟨by lia,?_,jA,fun i i1 i2=>k2 i i1⟩) fun hn=>K _ _ ⟨by lia,by lia,j,fun i i1 i2=>k2 i ?_⟩
      rotate_left
      .have e1:k≠0:=by simpa using e1
       lia
      .try dsimp only at hn
       lia
      let⟨x1,x2,jx,fx⟩:=h
      obtain⟨nb,rfl⟩:∃ n,nb=n+1:=⟨nb-1,by lia⟩
      have O:nb<b.size:=by lia
      show wpS_bind (u8 O ?_)
      have jy:=U _ _ _ O jx fx
      show v6 (fun e=>wpS_pure ⟨⟨z.1,z.2,z.3,z.4⟩,.inl ⟨_,rfl,lst _ _ _ jy (by simpa using e)⟩⟩) fun e=>?_
      have e:¬ (_:Nat)=1:=fun h=>e (beq_iff_eq.mpr h)
      try dsimp only at e
      have af:m-1<a.size:=by lia
      show wpS_bind (u8 af ?_)
      show wpS_bind (zm9 (base:=0) (n:=nb) (hint:=nb-1) hg c (by show z.kind.trans hk) (ha _ (Array.getElem_mem_toList af)) hb (by lia) (fun i j i1 i2 i3=>sb i j (Nat.zero_le _) i2 (by lia)) (by lia) fun k' m1 m2 m3=>?_)
      simp only[Nat.zero_add]at m2 m3
      have jB:=chB _ _ _ k' m1 af (by lia) jy m3
      dsimp -zeta only
      extract_lets _ _ _ jp
      show ze6 (jp ()) (fun v out=>v<=nb/\1<v/\MS (Rr κ) (a.toList++b.toList) out.toList (a.toList.take m).reverse (b.toList.take v).reverse/\∀ i,i<v->i<b.size->κ.kle (KK κ b i) (ky κ a[m-1])) (fun v out h=>?_) fun K=>v6 (fun hp=>v6 (fun e=>wpS_pure ⟨⟨z.1,z.2,z.3,z.4⟩,.inl ⟨_,rfl,lst _ _ _ jB (by simpa using e)⟩⟩) fun e3=>v6 (fun e=>wpS_pure ⟨⟨z.1,z.2,z.3,z.4⟩,.inl ⟨_,rfl,a5 _ _ _ jB (by simpa using e)⟩⟩) fun e4=>K _ _ ⟨by lia,?_,jB,fun i i1 i2=>KeyOrd.kle_of_klt (m2 i i1)⟩) fun hn=>K _ _ ⟨by lia,by lia,jy,fun i i1 i2=>KeyOrd.kle_of_klt (m2 i ?_)⟩
      rotate_left
      .have e3:k'≠1:=by simpa using e3
       have e4:k'≠0:=by simpa using e4
       lia
      .try dsimp only at hn
       lia
      let⟨y1,y2,jz,fz⟩:=h
      obtain⟨m,rfl⟩:∃ n,m=n+1:=⟨m-1,by lia⟩
      have a3:m<a.size:=by lia
      show wpS_bind (u8 a3 ?_)
      have jw:=Y _ _ _ a3 jz fz
      show v6 (fun e=>wpS_pure ⟨⟨z.1,z.2,z.3,z.4⟩,.inl ⟨_,rfl,a6 _ _ _ jw (by simpa using e)⟩⟩) fun e=>?_
      have e:¬ (_:Nat)=0:=fun h=>e (beq_iff_eq.mpr h)
      try dsimp only at e
      show v6 (fun _=>wpS_pure ⟨⟨z.1,z.2,z.3,z.4⟩,.inr ⟨rfl,jw,?_,?_,?_⟩⟩) fun _=>wpS_pure ⟨rfl,⟨z.1,z.2,z.3,z.4⟩,jw,?_,?_,?_⟩
      all_goals dsimp only;lia
     .refine pr7 fun o na nb out mg ac bc=>?_
      rintro a7 ⟨N,z,j,l1,l2,l4⟩
      show⟨z,.inr ⟨N,j,l1,l2,l4⟩⟩
     .refine pr7 fun o na nb out mg ac bc=>?_
      rintro a7 ⟨z,hh⟩
      rcases hh with⟨m,N,gm⟩|⟨N,j,l8,l9,ai⟩
      .simp only at N;subst N
       show wpS_pure (wpS_pure (q _ _ z gm))
      .simp only at N j l8 l9 ai;subst N
       show wpS_bind (wpS_modify (wpS_pure ⟨rfl,⟨z.1,z.2,z.3,z.4⟩,j,l8,l9,by dsimp only;lia⟩))
  .refine pr5 fun o na nb out mg=>?_
   rintro st' ⟨N,z,j,l1,l2,l3⟩
   simp only at l1 l2 l3
   lia
end
end TS
end
section
namespace TS
section
variable {prog:Program}{w:World}{A:Around}{E:Value->Shared->Prop}{s:Shared}{a₀:Array Keyed}{κ:PyProof.Rows.KeyKind}{kd:SortKind}{st:SortSt}
theorem yv3 (sa:Nat):∀(l:List Keyed)(n:Nat)(arr:Array Keyed),sa+n+l.length<=arr.size->∀ k,(List.foldl (fun(a:Array Keyed)(x:Keyed×Nat)=>match x with | (p,j)=>a.setIfInBounds (sa+j) p) arr (l.zipIdx n))[k]? =if sa+n<=k/\k<sa+n+l.length then l[k-(sa+n)]? else arr[k]?
 |[],n,arr,h,k=>by
  rw[List.zipIdx_nil,List.foldl_nil,if_neg (by simp)]
 |x::l,n,arr,h,k=>by
  simp only[List.length_cons]at h
  rw[List.zipIdx_cons,List.foldl_cons,yv3 sa l (n+1) _ (by simp;lia)]
  simp only[List.length_cons]
  by_cases h1:k=sa+n
  .subst h1
   rw[if_neg (by lia),if_pos (by lia),Array.getElem?_setIfInBounds_self_of_lt (by lia)]
   simp
  .by_cases h2:sa+(n+1)<=k/\k<sa+(n+1)+l.length
   .rw[if_pos h2,if_pos (by lia),show k-(sa+n)=(k-(sa+(n+1)))+1 by lia,List.getElem?_cons_succ]
   .rw[if_neg h2,if_neg (by lia),Array.getElem?_setIfInBounds_ne (by lia)]
theorem yv2 {arr m:Array Keyed}{sa:Nat}(h:sa+m.size<=arr.size):(wr arr sa m).toList=arr.toList.take sa++m.toList++arr.toList.drop (sa+m.size):=by
 show List.ext_getElem? fun k=>?_
 have:=yv3 sa m.toList 0 arr (by simpa using h) k
 rw[Array.getElem?_toList]
 delta wr
 rw[this]
 simp only[Array.length_toList,Nat.add_zero,Array.getElem?_toList]
 have i:(arr.toList.take sa).length=sa:=by simp;lia
 by_cases h1:k<sa
 .rw[if_neg (by lia),List.append_assoc,List.getElem?_append_left (by lia),List.getElem?_take_of_lt h1,Array.getElem?_toList]
 .by_cases h2:k<sa+m.size
  .rw[if_pos (by lia),List.append_assoc,List.getElem?_append_right (by lia),List.getElem?_append_left (by simp;lia),i,Array.getElem?_toList]
  .rw[if_neg (by lia),List.getElem?_append_right (by simp;lia),List.getElem?_drop,Array.getElem?_toList]
   congr 1
   simp only[List.length_append,i,Array.length_toList]
   lia
theorem xb5 {arr m:Array Keyed}{sa:Nat}(h:sa+m.size<=arr.size)(k:Nat):KK κ (wr arr sa m) k=if sa<=k/\k<sa+m.size then KK κ m (k-sa)else KK κ arr k:=by
 have:=yv3 sa m.toList 0 arr (by simpa using h) k
 simp only[Array.length_toList,Nat.add_zero,Array.getElem?_toList]at this
 split
 .rename_i h1
  rw[if_pos h1]at this
  show KK_congr this
 .rename_i h1
  rw[if_neg h1]at this
  show KK_congr this
theorem xx6 {arr m:Array Keyed}{sa sb:Nat}(h:sb<=arr.size)(hs:sa<=sb)(p:m.toList.Perm (arr.extract sa sb).toList):(wr arr sa m).Perm arr:=by
 have i:m.size=sb-sa:=by
  have:=p.length_eq
  simp at this;lia
 rw[Array.perm_iff_toList_perm,yv2 (by lia)]
 have e:arr.toList=arr.toList.take sa++(arr.extract sa sb).toList++arr.toList.drop (sa+m.size):=by
  rw[i,Array.toList_extract,List.extract,show sa+(sb-sa)=sb by lia]
  conv=>lhs;rw[<-List.take_append_drop sb arr.toList]
  congr 1
  conv=>lhs;rw[show sb=sa+(sb-sa)by lia,List.take_add]
 conv=>rhs;rw[e]
 show(p.append_left _).append_right _
theorem zw9 {arr arr':Array Keyed}{lo p q hi:Nat}(h1:∀ k,k<p\/q<=k->KK κ arr' k=KK κ arr k)(h2:Seg κ arr' p q)(O:∀ k,p<=k->k<q->∃ r,p<=r/\r<q/\KK κ arr' k=KK κ arr r)(s1:Seg κ arr lo p)(Y:Seg κ arr q hi)
  (I:∀ i r,lo<=i->i<p->p<=r->r<q->κ.kle (KK κ arr i) (KK κ arr r)) (z:∀ r j,p<=r->r<q->q<=j->j<hi->κ.kle (KK κ arr r) (KK κ arr j)) (G:∀ i j,lo<=i->i<p->q<=j->j<hi->κ.kle (KK κ arr i) (KK κ arr j)):Seg κ arr' lo hi:=by
 intro i j i1 i2 i3
 by_cases N:i<p
 .rw[h1 i (.inl N)]
  by_cases U:j<p
  .rw[h1 j (.inl U)];show s1 i j i1 i2 U
  .by_cases b2:j<q
   .let⟨r,r1,r2,e⟩:=O j (by lia) b2
    rw[e];show I i r i1 N r1 r2
   .rw[h1 j (.inr (by lia))];show G i j i1 N (by lia) i3
 .by_cases a2:i<q
  .by_cases b2:j<q
   .exact h2 i j (by lia) i2 b2
   .let⟨r,r1,r2,e⟩:=O i (by lia) a2
    rw[e,h1 j (.inr (by lia))];show z r j r1 r2 (by lia) i3
  .rw[h1 i (.inr (by lia)),h1 j (.inr (by lia))];show Y i j (by lia) i2 i3
theorem zt8 {arr:Array Keyed}{i j m:Nat}(z:j<=arr.size)(h:m<j-i):KK κ (arr.extract i j) m=KK κ arr (i+m):=by
 show KK_congr ?_
 rw[Array.getElem?_extract,if_pos (by lia)]
theorem xm0 {M:Model}{σ:Type}{st st':σ}{Q:PUnit->σ->Prop}(q:Q ⟨⟩ st'):wpS M A E s (set st') Q st:=wpAny_pure ⟨rfl,q⟩
theorem yy2 {i sa na pw sb nb pw2:Nat}(c:CL (model prog w) A E s a₀ κ kd)(h:SB a₀ kd st)(h1:(pendingOf st)[i]? =some (sa,na,pw))(h2:(pendingOf st)[i+1]? =some (sb,nb,pw2))(hs:sb=sa+na)(n1:1<=na)(n2:1<=nb)(hz:sb+nb<=a₀.size)(I:Seg κ (arrOf st) sa sb)(G:Seg κ (arrOf st) sb (sb+nb)){Q:Bool->SortSt->Prop}
  (q:∀ st',SB a₀ kd st'->pendingOf st'=((pendingOf st).setIfInBounds i (sa,na+nb,pw)).eraseIdxIfInBounds (i+1)->Seg κ (arrOf st') sa (sb+nb)->(∀ k,k<sa\/sb+nb<=k->KK κ (arrOf st') k=KK κ (arrOf st) k)->Q true st'):wpS (model prog w) A E s (mergeAt' i) Q st:=by
 let⟨g,a4,a5,eq,hg,a2,a3⟩:=wz3
 rw[eq]
 delta zu5
 show wpS_bind (wpS_get ?_)
 rw[h1,h2]
 have sz:=h.size
 have O:sb<(arrOf st).size:=by lia
 show wpS_bind (xm0 ?_)
 show wpS_bind (u8 O ?_)
 show wpS_bind (zk0 (base:=sa) (n:=na) (hint:=0) hg c (by show h.kind) (h.mem _ (Array.getElem_mem_toList O)) h.mem (by lia) (hs ▸ I) (by lia) fun k k1 k2 k3=>?_)
 rw[<-Z9 (Array.getElem?_eq_getElem O)]at k2 k3
 have h':SB a₀ kd (setPending st (((pendingOf st).setIfInBounds i (sa,na+nb,pw)).eraseIdxIfInBounds (i+1))):=⟨h.perm,h.kind,h.failed⟩
 show v6 (fun e=>wpS_pure (q _ h' rfl ?_ fun _ _=>rfl)) fun e1=>?_
 .have e:na-k=0:=by simpa using e
  show zw9 (p:=sb) (q:=sb) (arr:=arrOf st) (fun _ _=>rfl) (fun _ _ _ _ _=>by lia) (fun _ _ _=>by lia) I G (fun _ _ _ _ _ _=>by lia) (fun _ _ _ _ _ _=>by lia) fun i j i1 i2 j1 N=>?_
  have:=k2 (i-sa) (by lia)
  rw[show sa+(i-sa)=i by lia]at this
  show KeyOrd.kle_trans this (G _ _ (Nat.le_refl _) j1 N)
 have e1:na-k≠0:=by simpa using e1
 have hy:sa+k+(na-k)-1<(arrOf st).size:=by lia
 show wpS_bind (u8 hy ?_)
 show wpS_bind (zm9 (base:=sb) (n:=nb) (hint:=nb-1) hg c (by show h.kind) (h.mem _ (Array.getElem_mem_toList hy)) h.mem (by lia) G (by lia) fun m m1 m2 m3=>?_)
 rw[<-Z9 (Array.getElem?_eq_getElem hy),show sa+k+(na-k)-1=sb-1 by lia]at m2 m3
 show v6 (fun e=>wpS_pure (q _ h' rfl ?_ fun _ _=>rfl)) fun e2=>?_
 .have e:m=0:=by simpa using e
  show zw9 (p:=sb) (q:=sb) (arr:=arrOf st) (fun _ _=>rfl) (fun _ _ _ _ _=>by lia) (fun _ _ _=>by lia) I G (fun _ _ _ _ _ _=>by lia) (fun _ _ _ _ _ _=>by lia) fun i j i1 i2 j1 N=>?_
  have:=m3 (j-sb) (by lia) (by lia)
  rw[show sb+(j-sb)=j by lia]at this
  show KeyOrd.kle_trans (I i (sb-1) i1 (by lia) (by lia)) this
 have e2:m≠0:=by simpa using e2
 have za:((arrOf st).extract (sa+k) sb).size=na-k:=by simp;lia
 have zb:((arrOf st).extract sb (sb+m)).size=m:=by simp;lia
 have fin:∀(z:Array Keyed)(st':SortSt),St (setPending st (((pendingOf st).setIfInBounds i (sa,na+nb,pw)).eraseIdxIfInBounds (i+1))) st'->S9 (Rk κ) (((arrOf st).extract (sa+k) sb).toList++((arrOf st).extract sb (sb+m)).toList) z.toList->wpS (model prog w) A E s (E3 (sa+k) z) Q st':=by
  intro z st' ss ⟨gp,gs⟩
  delta E3
  show wpS_bind (wpS_modify ?_)
  show wpS_bind (wpS_get ?_)
  have hf:failedOf (setArr st' (wr (arrOf st') (sa+k) z))=none:=ss.failed.trans h.failed
  rw[hf]
  have ea:arrOf st'=arrOf st:=ss.arr
  have U:z.toList.Perm ((arrOf st).extract (sa+k) (sb+m)).toList:=by
   show gp.trans ?_
   rw[<-Array.toList_append,Array.extract_append_extract,show min (sa+k) sb=sa+k by lia,show max sb (sb+m)=sb+m by lia]
  have zm:z.size=(sb+m)-(sa+k):=by
   have:=U.length_eq
   simp at this;lia
  have kk:=xb5 (κ:=κ) (arr:=arrOf st) (m:=z) (sa:=sa+k) (by lia)
  show wpS_pure (q _ ⟨?_,ss.kind.trans h.kind,hf⟩ ss.pend ?_ ?_)
  .show (wr (arrOf st') (sa+k) z).Perm a₀
   rw[ea]
   show(xx6 (sb:=sb+m) (by lia) (by lia) U).trans h.perm
  .show Seg κ (wr (arrOf st') (sa+k) z) sa (sb+nb)
   rw[ea]
   have sg:=ye1 gs
   show zw9 (p:=sa+k) (q:=sb+m) (arr:=arrOf st) (fun j hj=>?_) (fun i j i1 i2 i3=>?_) (fun j j1 N=>?_) (fun i j i1 i2 i3=>I i j i1 i2 (by lia)) (fun i j i1 i2 i3=>G i j (by lia) i2 i3) (fun i r i1 i2 r1 r2=>?_) (fun r j r1 r2 j1 N=>?_) fun i j i1 i2 j1 N=>?_
   .rw[kk,if_neg (by lia)]
   .rw[kk,kk,if_pos (by lia),if_pos (by lia)]
    show sg _ _ (Nat.zero_le _) (by lia) (by lia)
   .rw[kk,if_pos (by lia)]
    have hj:j-(sa+k)<z.size:=by lia
    rw[Z9 (Array.getElem?_eq_getElem hj)]
    have hm:=U.mem_iff.mp (Array.getElem_mem_toList hj)
    let⟨r,hr,er⟩:=List.getElem_of_mem hm
    have a1:r<sb+m-(sa+k):=by simp at hr;lia
    show⟨sa+k+r,by lia,by lia,?_⟩
    rw[<-er,<-zt8 (κ:=κ) (arr:=arrOf st) (i:=sa+k) (j:=sb+m) (m:=r) (by lia) a1,Z9 (Array.getElem?_eq_getElem (by simp;lia))]
    simp
   .rcases Nat.lt_or_ge r sb with hr|hr
    .exact I i r i1 (by lia) hr
    .have:=k2 (i-sa) (by lia)
     rw[show sa+(i-sa)=i by lia]at this
     show KeyOrd.kle_trans this (G _ _ (Nat.le_refl _) hr (by lia))
   .rcases Nat.lt_or_ge r sb with hr|hr
    .have:=m3 (j-sb) (by lia) (by lia)
     rw[show sb+(j-sb)=j by lia]at this
     show KeyOrd.kle_trans (I r (sb-1) (by lia) (by lia) (by lia)) this
    .exact G r j hr (by lia) N
   .have:=k2 (i-sa) (by lia)
    rw[show sa+(i-sa)=i by lia]at this
    show KeyOrd.kle_trans this (G _ _ (Nat.le_refl _) (by lia) N)
  .intro j hj
   show KK κ (wr (arrOf st') (sa+k) z) j=_
   rw[ea,kk,if_neg (by lia)]
 have ma:∀ x,x∈((arrOf st).extract (sa+k) sb).toList->x∈a₀.toList:=fun x hx=>h.mem x (by
  rw[Array.toList_extract,List.extract]at hx
  show List.mem_of_mem_drop (List.mem_of_mem_take hx))
 have mb:∀ x,x∈((arrOf st).extract sb (sb+m)).toList->x∈a₀.toList:=fun x hx=>h.mem x (by
  rw[Array.toList_extract,List.extract]at hx
  show List.mem_of_mem_drop (List.mem_of_mem_take hx))
 have Z:Seg κ ((arrOf st).extract (sa+k) sb) 0 ((arrOf st).extract (sa+k) sb).size:=fun i j _ i2 i3=>by
  rw[za]at i3
  rw[zt8 (by lia) (by lia),zt8 (by lia) (by lia)]
  show I _ _ (by lia) (by lia) (by lia)
 have Y:Seg κ ((arrOf st).extract sb (sb+m)) 0 ((arrOf st).extract sb (sb+m)).size:=fun i j _ i2 i3=>by
  rw[zb]at i3
  rw[zt8 (by lia) (by lia),zt8 (by lia) (by lia)]
  show G _ _ (by lia) (by lia) (by lia)
 have q0:κ.klt (KK κ ((arrOf st).extract sb (sb+m)) 0) (KK κ ((arrOf st).extract (sa+k) sb) 0):=by
  rw[zt8 (by lia) (by lia),zt8 (by lia) (by lia)]
  show k3 k (Nat.le_refl _) (by lia)
 have q9:κ.klt (KK κ ((arrOf st).extract sb (sb+m)) (((arrOf st).extract sb (sb+m)).size-1)) (KK κ ((arrOf st).extract (sa+k) sb) (((arrOf st).extract (sa+k) sb).size-1)):=by
  rw[za,zb,zt8 (by lia) (by lia),zt8 (by lia) (by lia),show sa+k+(na-k-1)=sb-1 by lia]
  show m2 (m-1) (by lia)
 show v6 (fun _=>?_) (fun _=>?_)
 .exact wpS_bind (a2 _ _ _ _ _ _ _ _ c _ h'.kind _ _ ma mb Z Y (by lia) (by lia) q0 q9 _ fin)
 .exact wpS_bind (a3 _ _ _ _ _ _ _ _ c _ h'.kind _ _ ma mb Z Y (by lia) (by lia) q0 q9 _ fin)
end
end TS
end
section
namespace TS
section
variable {prog:Program}{w:World}{A:Around}{E:Value->Shared->Prop}{s:Shared}{a₀:Array Keyed}{κ:PyProof.Rows.KeyKind}{kd:SortKind}{st:SortSt}
noncomputable def Runs (κ:PyProof.Rows.KeyKind)(arr:Array Keyed):List (Nat×Nat×Nat)->Nat->Nat->Prop
 |[],lo,hi=>lo=hi
 | (s,n,_)::ps,lo,hi=>s=lo/\1<=n/\Seg κ arr s (s+n)/\Runs κ arr ps (s+n) hi
variable {arr arr':Array Keyed}
theorem Runs.app:∀{l1 l2:List (Nat×Nat×Nat)}{lo hi:Nat},Runs κ arr (l1++l2) lo hi↔∃ m,Runs κ arr l1 lo m/\Runs κ arr l2 m hi
 |[],l2,lo,hi=>⟨fun h=>⟨lo,rfl,h⟩,fun i=>by let⟨m,e,h⟩:=i;ext e;show h⟩
 | (s,n,p)::l1,l2,lo,hi=>⟨fun i=>by
   let⟨a,b,c,d⟩:=i
   let⟨m,h1,h2⟩:=Runs.app.mp d
   show⟨m,⟨a,b,c,h1⟩,h2⟩,fun⟨m,⟨a,b,c,d⟩,h⟩=>⟨a,b,c,Runs.app.mpr ⟨m,d,h⟩⟩⟩
theorem Runs.len:∀{l:List (Nat×Nat×Nat)}{lo hi:Nat},Runs κ arr l lo hi->lo+l.length<=hi
 |[],lo,hi,h=>by ext h;simp
 | (s,n,p)::l,lo,hi,⟨a,b,_,d⟩=>by
  have:=d.len
  simp only[List.length_cons];lia
theorem Runs.congr:∀{l:List (Nat×Nat×Nat)}{lo hi:Nat},Runs κ arr l lo hi->(∀ k,lo<=k->k<hi->KK κ arr' k=KK κ arr k)->Runs κ arr' l lo hi
 |[],lo,hi,h,_=>h
 | (s,n,p)::l,lo,hi,⟨a,b,c,d⟩,e=>⟨a,b,c.congr fun k j i=>e k (by lia) (by have:=d.len;lia),d.congr fun k j i=>e k (by lia) i⟩
theorem yk1 {α:Type}{l1 l2:List α}{x y z:α}:(((l1++x::y::l2).set l1.length z).eraseIdx (l1.length+1))=l1++z::l2:=by
 rw[List.set_append_right _ _ (Nat.le_refl _),Nat.sub_self,List.set_cons_zero,List.eraseIdx_append_of_length_le (by lia)]
 simp
theorem yv4 {i hi:Nat}(c:CL (model prog w) A E s a₀ κ kd)(h:SB a₀ kd st)(hr:Runs κ (arrOf st) (pendingOf st).toList 0 hi)(I:i+1<(pendingOf st).size)(hz:hi<=a₀.size){Q:Bool->SortSt->Prop}
  (q:∀ st',SB a₀ kd st'->Runs κ (arrOf st') (pendingOf st').toList 0 hi->(pendingOf st').size+1=(pendingOf st).size->(∀ k,hi<=k->KK κ (arrOf st') k=KK κ (arrOf st) k)->Q true st'):wpS (model prog w) A E s (mergeAt' i) Q st:=by
 have hl:i+1<(pendingOf st).toList.length:=by simpa using I
 obtain⟨l1,x,y,l2,e,e1⟩:∃ l1 x y l2,(pendingOf st).toList=l1++x::y::l2/\l1.length=i:=by
  show⟨(pendingOf st).toList.take i,(pendingOf st).toList[i],(pendingOf st).toList[i+1],(pendingOf st).toList.drop (i+2),?_,by simp;lia⟩
  rw[<-List.drop_eq_getElem_cons hl,<-List.drop_eq_getElem_cons (by lia),List.take_append_drop]
 let⟨sa,na,pw⟩:=x
 let⟨sb,nb,pw2⟩:=y
 rw[e]at hr
 let⟨m,r1,r2,r3,r4,z,Z,Y,N⟩:=Runs.app.mp hr
 have O:=N.len
 show yy2 c h (sa:=sa) (na:=na) (pw:=pw) (sb:=sb) (nb:=nb) (pw2:=pw2) (by rw[<-Array.getElem?_toList,e,<-e1];simp) (by rw[<-Array.getElem?_toList,e,<-e1];simp) z r3 Z (by lia) (z ▸ r4) Y fun st' h' ep U G=>?_
 have j:(pendingOf st').toList=l1++(sa,na+nb,pw)::l2:=by
  rw[ep,Array.toList_eraseIdxIfInBounds,Array.toList_setIfInBounds,e,<-e1,yk1]
 show q st' h' ?_ ?_ fun k hk=>G k (.inr (by lia))
 .rw[j]
  have a1:=r1.len
  show Runs.app.mpr ⟨m,r1.congr fun k _ k2=>G k (.inl (by lia)),r2,by lia,by rw[<-Nat.add_assoc,<-z];show U,?_⟩
  rw[<-Nat.add_assoc,<-z]
  show N.congr fun k k1 k2=>G k (.inr (by lia))
 .have a:=congrArg List.length j
  have b:=congrArg List.length e
  simp at a b
  lia
theorem zd0 {l:List (Nat×Nat×Nat)}{n:Nat}(h:Runs κ arr l 0 n)(z:l.length<=1):Seg κ arr 0 n:=by
 match l,h with
 |[],h=>ext h;show fun i j _ _ h=>absurd h (Nat.not_lt_zero _)
 |[(s,m,p)],⟨a,b,c,d⟩=>
  have d:s+m=n:=d
  subst a;subst d
  show c
 |_::_::_,_=>simp at z
theorem Runs.mod {f:Nat×Nat×Nat->Nat×Nat×Nat}(j:∀ x,(f x).1=x.1/\(f x).2.1=x.2.1):∀{l:List (Nat×Nat×Nat)}{lo hi:Nat}(i:Nat),Runs κ arr l lo hi->Runs κ arr (l.modify i f) lo hi
 |[],lo,hi,i,h=>by simpa using h
 | (s,n,p)::l,lo,hi,0,h=>by
  rw[List.modify_zero_cons]
  have:=j (s,n,p)
  revert this
  generalize f (s,n,p)=x
  let⟨a,b,c⟩:=x
  rintro⟨e1,e2⟩
  simp only at e1 e2
  subst e1 e2
  show h
 | (s,n,p)::l,lo,hi,i+1,⟨a,b,c,d⟩=>by
  rw[List.modify_succ_cons]
  show⟨a,b,c,Runs.mod j i d⟩
theorem C7 {ps:Array (Nat×Nat×Nat)}{lo hi pw:Nat}(h:Runs κ arr ps.toList lo hi):Runs κ arr (ps.modify (ps.size-1) fun x=>match x with | (st,len,_)=>(st,len,pw)).toList lo hi:=by
 rw[Array.toList_modify]
 show Runs.mod (f:=fun x=>match x with | (st,len,_)=>(st,len,pw)) (fun x=>⟨rfl,rfl⟩) _ h
theorem xx7 (c:CL (model prog w) A E s a₀ κ kd)(h:SB a₀ kd st)(hp:pendingOf st=#[]){Q:Unit->SortSt->Prop}
  (q:∀ st',(arrOf st').Perm a₀->failedOf st'=none->SortedToK κ (arrOf st') a₀.size->Q () st'):wpS (model prog w) A E s sortRuns' Q st:=by
 rw[sortRuns'_eq]
 show wpS_bind (wpS_get ?_)
 have sz:=h.size
 show wpS_bind (wpS_mono (Q:=fun t st'=>t.1=none/\SB a₀ kd st'/\Runs κ (arrOf st') (pendingOf st').toList 0 a₀.size) (t8 0 (arrOf st).size _ _ (fun r t st'=>t.1=none/\SB a₀ kd st'/\Runs κ (arrOf st') (pendingOf st').toList 0 t.2/\t.2<=a₀.size/\a₀.size<=t.2+r) _ ⟨rfl,h,by rw[hp];rfl,by dsimp only;lia,by dsimp only;lia⟩ ?_ ?_) ?_)
 .rintro _ r ⟨o,lo⟩ st1 _ _ _ ⟨ho,h1,r1,l1,l2⟩
  simp only at ho r1 l1 l2
  subst ho
  show v6 (fun e=>wpS_pure ⟨rfl,h1,?_⟩) fun e=>?_
  .have e:lo ≥ (arrOf st).size:=e
   rw[show lo=a₀.size by lia]at r1;show r1
  have e:¬ lo ≥ (arrOf st).size:=e
  show wpS_bind (zk1 c h1 (lo:=lo) (nrem:=(arrOf st).size-lo) (by lia) (by lia) fun m I ch m1 m2 sg=>?_)
  have r2:Runs κ (arrOf I) (pendingOf I).toList 0 lo:=by
   rw[ch.pend];show r1.congr fun k _ hk=>ch.pre k hk
  show v6 (fun e2=>?_) (fun e2=>?_)
  .refine wpS_bind (wpS_lift (wpAny_rule ⟨rfl,?_⟩))
   have e2:m<minRun' (arrOf st).size (arrOf st).size 0:=e2
   show wpS_bind (xm2 c ch.sb (lo:=lo) (n:=min ((arrOf st).size-lo) (minRun' (arrOf st).size (arrOf st).size 0)) m1 (by lia) (by lia) sg fun Y a4 a6=>?_)
   have hS:=a4.sb
   have hR:Runs κ (arrOf Y) (pendingOf Y).toList 0 lo:=by
    rw[a4.pend];show r2.congr fun k _ hk=>a4.pre k hk
   have hG:=a6
   have hN:1<=min ((arrOf st).size-lo) (minRun' (arrOf st).size (arrOf st).size 0):=by lia
   have hM:lo+min ((arrOf st).size-lo) (minRun' (arrOf st).size (arrOf st).size 0)<=a₀.size:=by lia
   show v6 (fun e=>absurd e (by simp)) fun _=>?_
   clear e2 m1 m2 r2 sg
   revert hG hN hM
   generalize min ((arrOf st).size-lo) (minRun' (arrOf st).size (arrOf st).size 0)=N
   intro hG hN hM
   show wpS_bind (wpS_get ?_)
   have Z:∀ z:SortSt,SB a₀ kd z->Runs κ (arrOf z) (pendingOf z).toList 0 lo->(∀ k,lo<=k->KK κ (arrOf z) k=KK κ (arrOf Y) k)->Runs κ (arrOf z) ((pendingOf z).push (lo,N,0)).toList 0 (lo+N):=fun z G O U=>by
    rw[Array.toList_push]
    show Runs.app.mpr ⟨lo,O,rfl,hN,hG.congr fun k k1 _=>U k k1,rfl⟩
   have a1:∀(z:SortSt)(pw:Nat),SB a₀ kd z->Runs κ (arrOf z) (pendingOf z).toList 0 lo->(∀ k,lo<=k->KK κ (arrOf z) k=KK κ (arrOf Y) k)->Runs κ (arrOf z) (((pendingOf z).modify ((pendingOf z).size-1) fun x=>match x with | (a,b,_)=>(a,b,pw)).push (lo,N,0)).toList 0 (lo+N):=fun z pw G O U=>Z (setPending z ((pendingOf z).modify ((pendingOf z).size-1) fun x=>match x with | (a,b,_)=>(a,b,pw))) ⟨G.perm,G.kind,G.failed⟩ (C7 O) U
   rcases hb:(pendingOf Y).back? with _|⟨s1,n1,a7⟩
   .exact wpS_bind (wpS_modify (wpS_pure ⟨rfl,⟨hS.perm,hS.kind,hS.failed⟩,Z Y hS hR fun _ _=>rfl,hM,by dsimp only;lia⟩))
   .refine wpS_bind (wpS_mono (Q:=fun t st'=>t.1=none/\SB a₀ kd st'/\Runs κ (arrOf st') (pendingOf st').toList 0 lo/\∀ k,lo<=k->KK κ (arrOf st') k=KK κ (arrOf Y) k) (t8 0 _ _ _ (fun _ t st'=>t.1=none/\SB a₀ kd st'/\Runs κ (arrOf st') (pendingOf st').toList 0 lo/\∀ k,lo<=k->KK κ (arrOf st') k=KK κ (arrOf Y) k) _ ⟨rfl,hS,hR,fun _ _=>rfl⟩ ?_ ?_) ?_)
    .rintro _ r ⟨o,_⟩ z _ _ _ ⟨ho,G,O,U⟩
     simp only at ho
     subst ho
     show wpS_bind (wpS_get ?_)
     dsimp only
     by_cases a2:(pendingOf z).size>1
     .rcases he:(pendingOf z)[(pendingOf z).size-2]? with _|⟨x1,x2,a3⟩
      .rw[if_pos a2]
       show wpS_pure ⟨rfl,G,O,U⟩
      .rw[if_pos a2]
       show v6 (fun _=>wpS_pure ⟨rfl,G,O,U⟩) fun _=>?_
       show wpS_bind (yv4 c G O (by lia) (by lia) fun a5 h4 r4 _ k4=>wpS_pure ⟨rfl,h4,r4,fun k hk=>(k4 k hk).trans (U k hk)⟩)
     .rw[if_neg a2]
      show wpS_pure ⟨rfl,G,O,U⟩
    .rintro⟨o,_⟩ z h
     show h
    .rintro⟨o,_⟩ z ⟨ho,G,O,U⟩
     simp only at ho
     subst ho
     show wpS_bind (wpS_modify ?_)
     show wpS_bind (wpS_modify (wpS_pure ⟨rfl,⟨G.perm,G.kind,G.failed⟩,a1 z _ G O U,hM,by dsimp only;lia⟩))
  .have hS:=ch.sb
   have hR:=r2
   have hG:=sg
   have hN:=m1
   have hM:lo+m<=a₀.size:=by lia
   show wpS_bind (wpS_get ?_)
   have Z:∀ z:SortSt,SB a₀ kd z->Runs κ (arrOf z) (pendingOf z).toList 0 lo->(∀ k,lo<=k->KK κ (arrOf z) k=KK κ (arrOf I) k)->Runs κ (arrOf z) ((pendingOf z).push (lo,m,0)).toList 0 (lo+m):=fun z G O U=>by
    rw[Array.toList_push]
    show Runs.app.mpr ⟨lo,O,rfl,hN,hG.congr fun k k1 _=>U k k1,rfl⟩
   have a1:∀(z:SortSt)(pw:Nat),SB a₀ kd z->Runs κ (arrOf z) (pendingOf z).toList 0 lo->(∀ k,lo<=k->KK κ (arrOf z) k=KK κ (arrOf I) k)->Runs κ (arrOf z) (((pendingOf z).modify ((pendingOf z).size-1) fun x=>match x with | (a,b,_)=>(a,b,pw)).push (lo,m,0)).toList 0 (lo+m):=fun z pw G O U=>Z (setPending z ((pendingOf z).modify ((pendingOf z).size-1) fun x=>match x with | (a,b,_)=>(a,b,pw))) ⟨G.perm,G.kind,G.failed⟩ (C7 O) U
   rcases hb:(pendingOf I).back? with _|⟨s1,n1,a7⟩
   .exact wpS_bind (wpS_modify (wpS_pure ⟨rfl,⟨hS.perm,hS.kind,hS.failed⟩,Z I hS hR fun _ _=>rfl,hM,by dsimp only;lia⟩))
   .refine wpS_bind (wpS_mono (Q:=fun t st'=>t.1=none/\SB a₀ kd st'/\Runs κ (arrOf st') (pendingOf st').toList 0 lo/\∀ k,lo<=k->KK κ (arrOf st') k=KK κ (arrOf I) k) (t8 0 _ _ _ (fun _ t st'=>t.1=none/\SB a₀ kd st'/\Runs κ (arrOf st') (pendingOf st').toList 0 lo/\∀ k,lo<=k->KK κ (arrOf st') k=KK κ (arrOf I) k) _ ⟨rfl,hS,hR,fun _ _=>rfl⟩ ?_ ?_) ?_)
    .rintro _ r ⟨o,_⟩ z _ _ _ ⟨ho,G,O,U⟩
     simp only at ho
     subst ho
     show wpS_bind (wpS_get ?_)
     dsimp only
     by_cases a2:(pendingOf z).size>1
     .rcases he:(pendingOf z)[(pendingOf z).size-2]? with _|⟨x1,x2,a3⟩
      .rw[if_pos a2]
       show wpS_pure ⟨rfl,G,O,U⟩
      .rw[if_pos a2]
       show v6 (fun _=>wpS_pure ⟨rfl,G,O,U⟩) fun _=>?_
       show wpS_bind (yv4 c G O (by lia) (by lia) fun a5 h4 r4 _ k4=>wpS_pure ⟨rfl,h4,r4,fun k hk=>(k4 k hk).trans (U k hk)⟩)
     .rw[if_neg a2]
      show wpS_pure ⟨rfl,G,O,U⟩
    .rintro⟨o,_⟩ z h
     show h
    .rintro⟨o,_⟩ z ⟨ho,G,O,U⟩
     simp only at ho
     subst ho
     show wpS_bind (wpS_modify ?_)
     show wpS_bind (wpS_modify (wpS_pure ⟨rfl,⟨G.perm,G.kind,G.failed⟩,a1 z _ G O U,hM,by dsimp only;lia⟩))
 .rintro⟨o,lo⟩ st1 ⟨ho,h1,r1,l1,l2⟩
  simp only at r1 l1 l2
  rw[show lo=a₀.size by lia]at r1
  show⟨ho,h1,r1⟩
 .rintro⟨o,lo⟩ st1 ⟨ho,h1,r1⟩
  simp only at ho
  subst ho
  show wpS_bind (wpS_mono (Q:=fun t st'=>t.1=none/\SB a₀ kd st'/\Seg κ (arrOf st') 0 a₀.size) (t8 0 _ _ _ (fun r t st'=>t.1=none/\SB a₀ kd st'/\Runs κ (arrOf st') (pendingOf st').toList 0 a₀.size/\(pendingOf st').size<=r+1) _ ⟨rfl,h1,r1,by have:=r1.len;simp at this;lia⟩ ?_ ?_) ?_)
  .rintro _ r ⟨o,_⟩ I _ _ _ ⟨ho,h2,r2,l2⟩
   simp only at ho
   subst ho
   show wpS_bind (wpS_get ?_)
   show v6 (fun e=>wpS_pure ⟨rfl,h2,zd0 r2 (by simpa using e)⟩) fun e=>?_
   have e:¬ (pendingOf I).size<=1:=e
   show wpS_bind (yv4 c h2 r2 ?_ (Nat.le_refl _) fun Y G O l3 _=>wpS_pure ⟨rfl,G,O,by lia⟩)
   have pick:∀(p:Prop)[Decidable p](n:Nat),2<=n->(if p then n-2-1 else n-2)+1<n:=fun p _ n h=>by split <;> lia
   show pick _ _ (by lia)
  .rintro⟨o,_⟩ I ⟨ho,h2,r2,l2⟩
   show⟨ho,h2,zd0 r2 (by simpa using l2)⟩
  .rintro⟨o,_⟩ I ⟨ho,h2,sg⟩
   simp only at ho
   subst ho
   show wpS_pure (q I h2.perm h2.failed fun i j h1 h2=>sg i j (Nat.zero_le _) h1 h2)
end
end TS
end
section
namespace TS
section
variable {prog:Program}{w:World}{A:Around}{E:Value->Shared->Prop}{s:Shared}{κ:PyProof.Rows.KeyKind}{kd:SortKind}
theorem zw2 {M:Model}{a:Addr}{o:Obj}{xs:Array Value}{n:Nat}{Q:Nat->Shared->Prop}(h:s.heap.get? a=some o)(hd:o.data= .seq xs n)(q:Q n s):wpAny M A (seqEpoch a) Q E s:=by
 wp_walk
 rw[hd]
 show wpAny_pure q
noncomputable def sHp (h:Heap)(a:Addr)(vs:List Value):Heap:=((h.update a (Obj.mapSeq fun _=>#[])).push (seqObj "tuple" vs.toArray 0)).push (seqObj "list" #[] 0)
theorem zh6 {a:Addr}{vs:List Value}{n:Nat}{P:PySem.Fin->Shared->Prop}(U:s.heap.get? a=some (seqObj "list" vs.toArray n))(Z:vs.length<=sizeLine)
  (hk:2<=vs.length->∀ Q:SortKind->Shared->Prop,Q kd { s with heap:=sHp s.heap a vs }->wpAny (model prog w) A (keyKind' vs.toArray) Q E { s with heap:=sHp s.heap a vs })
  (hc:CL (model prog w) A E { s with heap:=sHp s.heap a vs } (pairsOf vs) κ kd)
  (fin:∀ xs:Array Keyed,xs.Perm (pairsOf vs)->SortedToK κ xs (pairsOf vs).size->P (.done (.ret .none)) { s with heap:=sortedHeap s.heap a vs (xs.map (·.2)) }):wpAny (model prog w) A (Builtin.«list.sort» ⟨[.ref a],[]⟩) P E s:=by
 rw[list_sort_plain]
 have O:vs.toArray.size<=sizeLine:=by simpa using Z
 show wpAny_bind (wpAny_listItems U rfl ?_)
 show wpAny_bind (m:=Builtin.List.listUpdate (.ref a) fun _=>#[]) (wpAny_updateSeq U rfl ?_ O (Nat.zero_le _))
 have I:(s.heap.update a (Obj.mapSeq fun _=>#[])).get? a=some (Obj.mapSeq (fun _=>#[]) (seqObj "list" vs.toArray n)):=Heap.get?_update_self _ U rfl
 show wpAny_bind (m:=seqEpoch a) (zw2 I rfl ?_)
 show wpAny_bind (wpAny_newTuple ?_ (by simpa using Z))
 show wpAny_bind (wpAny_newList ?_ (Nat.zero_le _))
 show wpAny_holding ?_
 have z:(sHp s.heap a vs).get? a=some (Obj.mapSeq (fun _=>#[]) (seqObj "list" vs.toArray n)):=Heap.get?_push_of_some _ (Heap.get?_push_of_some _ I)
 by_cases h2:vs.toArray.size<2
 .rw[if_pos h2]
  show wpAny_bind (wpAny_pure ?_)
  rw[if_pos h2]
  have G:=fin (vs.toArray.zip vs.toArray) (.refl _) (fun i j h1 h3=>by
   have:(pairsOf vs).size<2:=by rw[pairsOf_size];simpa using h2
   rw[show i=j by lia];show KeyOrd.kle_refl _)
  have N:((vs.toArray.zip vs.toArray).map (·.2)).size<=sizeLine+1:=by simp;lia
  show wpAny_bind (m:=StateT.run (pure ()) _) (wpAny_pure ?_)
  show wpAny_bind (m:=seqEpoch a) (zw2 z rfl ?_)
  show wpAny_bind (m:=Builtin.List.listUpdate (.ref a) _) (wpAny_updateSeq z rfl ?_ (Nat.zero_le _) N)
  show wpAny (model prog w) A (if (_ != _)=true then _ else ret Value.none) P E _
  rw[if_neg (by simp)]
  show wpAny_pure G
 .rw[if_neg h2]
  have Y:2<=vs.length:=by simpa using h2
  show wpAny_bind ?_
  show hk Y _ ?_
  rw[if_neg h2]
  have hs:SB (pairsOf vs) kd (SortSt.mk' kd (vs.toArray.zip vs.toArray) #[] 7 none):=⟨.refl _,rfl,rfl⟩
  show wpAny_bind (wpAny_mono (xx7 hc hs rfl (Q:=fun _ st'=>(arrOf st').Perm (pairsOf vs)/\failedOf st'=none/\SortedToK κ (arrOf st') (pairsOf vs).size) fun st' a b c=>⟨a,b,c⟩) ?_ fun _ _ h=>h)
  rintro⟨_,st'⟩ s' ⟨rfl,p1,p2,p3⟩
  have G:=fin (arrOf st') p1 p3
  have N:((arrOf st').map (·.2)).size<=sizeLine+1:=by
   have:=p1.size_eq;rw[pairsOf_size]at this;rw[Array.size_map,this];lia
  show wpAny_bind (m:=seqEpoch a) (zw2 z rfl ?_)
  show wpAny_bind (m:=Builtin.List.listUpdate (.ref a) _) (wpAny_updateSeq z rfl ?_ (Nat.zero_le _) N)
  rw[p2]
  show wpAny (model prog w) A (if (_ != _)=true then _ else ret Value.none) P E _
  rw[if_neg (by simp)]
  show wpAny_pure G
noncomputable def intKind:PyProof.Rows.KeyKind where
 α:=Int
 blt:=fun a b=>decide (a<b)
 irrefl:=fun a=>by simp
 trans:=fun a b c h1 h2=>by simp at h1 h2 ⊢;omega
 negTrans:=fun a b c h=>by simp at h ⊢;omega
 total:=fun a b h1 h2=>by simp at h1 h2;omega
 keyOf:=fun v=>match v with | .int n _=>some n|_=>none
 dflt:=0
theorem za4:∀{vs:List Value}{ns:List Int},IntsAre vs ns->∀ v,v∈vs->∃ n t,v= .int n t
 |_,_,.nil,v,h=>by ext h
 |_,_,.cons n t r,v,h=>by
  rcases List.mem_cons.mp h with e|h
  .exact⟨n,t,e⟩
  .exact za4 r v h
theorem xn7 {s:Shared}{vs:List Value}{ns:List Int}(h:IntsAre vs ns):CL (model prog w) A E s (pairsOf vs) intKind oneType':=by
 have hm:∀ x:Keyed,x∈(pairsOf vs).toList->∃ n t,x.1= .int n t:=fun x i=>by
  rw[pairsOf_toList]at i
  show za4 h _ (List.of_mem_zip i).1
 intro x y i G st Q I q
 let⟨n,t,e1⟩:=hm x i
 let⟨m,u,e2⟩:=hm y G
 rw[lt'_eq]
 show wpS_bind (wpS_get ?_)
 rw[I,keyLt'_oneType,e1,e2]
 show wpS_bind (wpS_lift (wpAny_attempt (oneLt_int ⟨rfl,wpS_pure ?_⟩)))
 have z:ky intKind x=n:=by delta ky;rw[e1];rfl
 have j:ky intKind y=m:=by delta ky;rw[e2];rfl
 rw[z,j]at q
 show q
theorem xx4 {xs:Array Keyed}{i:Nat}:KK intKind xs i=K xs i:=by
 unfold KK K
 rcases xs[i]? with _|⟨v,q⟩
 .rfl
 .cases v <;> rfl
theorem list_sort_any {a:Addr}{vs:List Value}{ns:List Int}{n:Nat}{P:PySem.Fin->Shared->Prop}(N:s.heap.get? a=some (seqObj "list" vs.toArray n))(I:vs.length<=sizeLine)(G:IntsAre vs ns)
  (fin:∀(out:Array Value)(z:List Int),IntsAre out.toList z->z.Perm ns->z.Pairwise (·<=·)->P (.done (.ret .none)) { s with heap:=sortedHeap s.heap a vs out }):wpAny (model prog w) A (Builtin.«list.sort» ⟨[.ref a],[]⟩) P E s:=by
 show zh6 (κ:=intKind) (kd:=oneType') N I (fun h2 Q q=>?_) (xn7 G) fun xs p1 p2=>?_
 .match vs,G,h2 with
  |v₁::v₂::rest,G,_=>
   rw[keyKind_ints G]
   show wpAny_pure q
 .have st:SortedTo xs (pairsOf vs).size:=fun i j h1 h2=>by
   have:=p2 i j h1 h2
   rw[xx4,xx4]at this
   simpa[KeyOrd.kle,intKind]using this
  let⟨z,Y,U,O⟩:=sorted_out G p1 st
  show fin _ z Y U O
end
end TS
end
section
section
variable {prog:Program}{w:World}{A:Around}{E:Value->Shared->Prop}{s:Shared}
theorem zs6 {l:Addr}{vs:List Value}{ns:List Int}{Q:Value->Shared->Prop}(N:s.heap.IsList l vs.toArray)(I:IntsAre vs ns)(G:vs.length<=sizeLine)
  (fin:∀(out:Array Value)(i:List Int),IntsAre out.toList i->i.Perm ns->i.Pairwise (·<=·)->Q (.ref (s.heap.objs.size+1)) { s with heap:=sortedAll s.heap vs out }):wpAny (model prog w) A (call (.builtin "sorted") [.ref l]) Q E s:=by
 show Calls.call_function_entry kind_sorted plain_sorted entry_sorted (args_sorted1 _) ?_
 unfold Builtin.«sorted»
 show wpAny_bind (m:=checkCount "sorted" 1 1 _) (wpAny_pure ?_)
 show wpAny_bind (collect_list N ?_ G)
 show wpAny_bind (wpAny_newList ?_ G)
 have j:((s.heap.push (seqObj "list" #[] 0)).update s.heap.objs.size (Obj.mapSeq fun x=>x++vs.toArray)).objs.size=s.heap.objs.size+1:=by simp[Heap.update,Heap.push]
 have z:(((s.heap.push (seqObj "list" #[] 0)).update s.heap.objs.size (Obj.mapSeq fun x=>x++vs.toArray)).push (seqObj "list" vs.toArray 0)).get? (s.heap.objs.size+1)=some (seqObj "list" vs.toArray 0):=by
  have:=Heap.get?_push_size (((s.heap.push (seqObj "list" #[] 0)).update s.heap.objs.size (Obj.mapSeq fun x=>x++vs.toArray))) (o:=seqObj "list" vs.toArray 0) rfl
  rwa [j]at this
 simp only[j]
 show wpAny_bind (wpAny_holding (wpAny_call_entry slot_list_sort ⟨_,z,rfl⟩ entry_list_sort (TS.list_sort_any z G I fun out i Y U O=>⟨_,rfl,?_⟩) (args_list_sort _)))
 show wpAny_pure ⟨_,rfl,fin out i Y U O⟩
end
section
variable {prog:Program}{w:World}{A:Around}{E:Value->Shared->Prop}{s:Shared}{a:Addr}
variable {S:Int->Bool}{n ep:Nat}{led:Bool}{o:Obj}{fs:Array (Int×Value)}{u:SetTable}
end
section
variable {X:Cx}{e:Expr}{pos:Pos}
noncomputable def yg4 (K:W.Frag):List V->Hp->VK->Prop:=fun vs H Q=>∃(p:Addr)(ns:List Int),vs=[.ref p]/\SqL K H p (ns.map V.int)/\∀ q,H q=none->Q (.ref q) (upd H q (.lst ((G4 ns).map V.int)))
theorem zn2:G7 X (.builtin "sorted") (yg4 X.K):=by
 intro pins s σ H xs us Q I r h
 let⟨p,ns,rfl,N,q⟩:=h
 let⟨u,rfl,O⟩:=P6 r
 ext O
 let⟨its,j,pl,G⟩:=I.list N
 have U:its.length=ns.length:=by rw[<-j.length,length_map]
 show zs6 pl.isList (B7 j) (by rw[U];rwa [length_map]at G) fun out i a1 a2 Z=>?_
 have e:i=G4 ns:=D4 (a2.trans (K1 ns).symm) Z (J1 ns)
 subst e
 let⟨c,Y⟩:=sortedAll_at s.heap its out
 show⟨.ref (s.heap.objs.size+1),_,I.laid (t':=s.toks) (o:=.lst ((G4 ns).map V.int)) (fun b o z=>sortedAll_old z) (Nat.le_succ _) ⟨?_,out.toList,c,zy2 a1,by simpa using Y⟩,rfl,q _ (I.hok.fresh (Nat.le_succ _))⟩
 rw[length_map,J2];rwa [length_map]at G
@[irreducible] noncomputable def E1 (m:ML):ML:=fun ρ=>match m ρ with |some ds=>(match O2 ds with |some ns=>some ((G4 ns).map .int)|none=>none)|none=>none
theorem yx1 {p:Pos}{m:ML}(N:Gl X "sorted")(hm:X.mg "sorted"=none)(ha:PB X e m)(I:bootBuiltins "sorted"=some (.builtin "sorted"))(hs:starEach (e::[]) X.env=(false,eval e X.env)::starEach [] X.env:=by rfl)(O:starEach [e] X.env=(false,eval e X.env)::starEach [] X.env:=by rfl)(z:(backTo pos (starEach [] X.env)).any (·.1)=false:=by rfl):PF X (.Call (.Name "sorted" p) [e] [] pos) (E1 m):=
 (T9 zn2 N hm I (j4 ha pa_nil hs) (by decide) (by decide) O z).imp fun σ H Q i=>by
  let⟨F0,H0,F,ρ,g,G,e,q⟩:=i
  delta E1 at e
  cases h1:m ρ with
  |none=>simp only[h1]at e;ext e
  |some ds=>
   simp only[h1]at e
   cases h2:O2 ds with
   |none=>simp only[h2]at e;ext e
   |some ns=>
    simp only[h2]at e
    ext e
    show⟨F0,H0,F,ρ,ds,G,h1,fun p xs F1 H1 j s1 r1=>⟨p,ns,rfl,?_,fun w hw=>?_⟩⟩
    .rw[<-Q9 r1 h2];show s1
    .exact q w _ F1 _ (j.trans (Ext.own j.fh hw)) (j.hh.free hw) (j.fh.free hw) y3 (D7 _)
end
section
variable {X:Cx}{e:Expr}{pos:Pos}
end
end
section
section
variable {X:Cx}{pins:List (Addr×Obj)}{σ:St}{H:Hp}{s:Shared}
variable {e:Expr}{pos:Pos}
end
end
section
structure BlkC (X:Cx)(sc:Scope)(N:List Str)(src:List (Option Nat)):Prop where
 kind:sc.kind= .function
 cells:∀ y∈sc.names,y.2= .cell->sc.names.lookup y.1=some .cell
 names:∀ y∈sc.names,y.2= .local->sc.names.lookup y.1=some .local
 free:∀ y∈sc.names,y.2= .free->X.env.kindOf y.1=some .cell\/X.env.kindOf y.1=some .free
 fv:∀(j i:Nat),src[j]? =some (some i)->∃ x,N[j]? =some x/\X.N[i]? =some x/\sc.names.lookup x=some .free
 len:src.length=N.length
section
variable {X:Cx}{pins:List (Addr×Obj)}{σ:St}{H:Hp}{s:Shared}
end
section
variable {X:Cx}
end
section
variable {X:Cx}{pos:Pos}
end
end
section
section
variable {X:Cx}{pos:Pos}
end
end
section
noncomputable def delB (p:Addr):Bx->Bx
 |[]=>[]
 | (q,c)::β=>match p==q with |true=>β|false=>(q,c)::delB p β
noncomputable def flS:Fl->D
 | .v d=>d
 | .l ds=>.lst ds
section
variable {K:W.Frag}{F0 H0 F H B:Hp}{σ:St}{ρ:Ro}{β:Bx}{fp:List Addr}
theorem BxR.take {p:Addr}{c:Cell}:∀{fp:List Addr}{β:Bx},BxR K F B fp β->β.lookup p=some c->∃ fq fr,CellR K F B fq p c/\BxR K F B fr (delB p β)/\(fq++fr).Perm fp
 |_,_,.nil,e=>by ext e
 |_,_,.cons (fp:=f1) (fq:=f2) (p:=q) (c:=c') (β:=β) h t,e=>by
  rw[lookup_cons]at e
  unfold delB
  cases hq:p==q with
  |true=>
   rw[hq]at e
   ext e
   have:p=q:=by simpa using hq
   subst this
   show⟨f1,f2,h,t,List.Perm.refl _⟩
  |false=>
   rw[hq]at e
   let⟨fq,fr,z,j,i⟩:=BxR.take t e
   show⟨fq,f1++fr,z,.cons h j,?_⟩
   rw[<-append_assoc]
   show(List.Perm.append_right fr perm_append_comm).trans ?_
   rw[append_assoc]
   show List.Perm.append_left f1 i
theorem FlR.shared {F':Hp}{fq:List Addr}{xs:List V}{fs:List Fl}(h:FlR K F B fq xs fs)(s:Same F F')(k:∀ a∈fq,F' a=B a):Reps K F' xs (fs.map flS):=by
 induction h with
 |nil=>show .nil
 |v r _ i=>show .cons (r.mono s) (i k)
 |l b r _ i=>show .cons (.lst (SqL.of (by rw[k _ (by simp)];show b)) (r.mono s)) (i fun a ha=>k a (mem_cons_of_mem _ ha))
theorem FlR.memL {fq:List Addr}{xs:List V}{fs:List Fl}(h:FlR K F B fq xs fs):∀ a∈fq,∃ ys,B a=some (.lst ys):=by
 induction h with
 |nil=>intro a ha;ext ha
 |v _ _ i=>show i
 |l b _ _ i=>
  intro a ha
  rcases List.mem_cons.mp ha with rfl|ha
  .exact⟨_,b⟩
  .exact i a ha
theorem yh9 {σ:St}{i:Nat}{x:Option V}(h:σ[i]? =some x):σ.set i x=σ:=by
 apply ext_getElem?
 intro j
 by_cases z:i=j
 .subst z
  rw[getElem?_set_self (List.getElem?_eq_some_iff.mp h).1,h]
 .rw[getElem?_set_ne z]
theorem RlW.openB {p:Addr}{fs:List Fl}(r:RlW K F0 H0 F H σ ρ β)(U:β.lookup p=some (.row fs)):∃ F',Same F F'/\RlW K F0 H0 F' H σ ρ (delB p β)/\Rep K F' (.ref p) (.lst (fs.map flS)):=by
 let⟨B,fp,i,ok⟩:=r
 let⟨fq,fr,hc,G,perm⟩:=ok.bx.take U
 cases hc with
 |@row fq0 _ xs _ b0 fl=>
  have at':∀ a∈p::fq0,∃ ys,B a=some (.lst ys):=fun a ha=>by
   rcases List.mem_cons.mp ha with rfl|ha
   .exact⟨_,b0⟩
   .exact fl.memL a ha
  have nb:∀ a∈p::fq0,B a≠none:=fun a ha=>by let⟨ys,e⟩:=at' a ha;rw[e];simp
  have I:∀ a∈p::fq0,F a=none:=fun a ha=>by
   cases hF:F a with
   |none=>rfl
   |some o=>
    have h1:=i.ext.new a (ok.out a (nb a ha)).2 (by rw[hF];simp)
    show absurd (Z8 h1).1 (nb a ha)
  have nd:(p::fq0++fr).Nodup:=(perm.nodup_iff).mpr ok.nd
  have Y:∀ a∈fr,a∉p::fq0:=fun a ha U=>(List.nodup_append.mp nd).2.2 a U a ha rfl
  show⟨fun a=>if a∈p::fq0 then B a else F a,fun a o e=>?_,⟨fun a=>if a∈p::fq0 then none else B a,fr,?_,?_⟩,?_⟩
  .have:a∉p::fq0:=fun z=>by rw[I a z]at e;ext e
   show (if a∈p::fq0 then B a else F a)=some o
   rw[if_neg this];show e
  .have sF:Same F (fun a=>if a∈p::fq0 then B a else F a):=fun a o e=>by
    have:a∉p::fq0:=fun z=>by rw[I a z]at e;ext e
    show (if a∈p::fq0 then B a else F a)=some o
    rw[if_neg this];show e
   have N:∀ a,a∉p::fq0->jn H0 (fun a=>if a∈p::fq0 then none else B a) a=jn H0 B a:=fun a ha=>by delta jn;simp only[if_neg ha]
   have Z:∀ a,a∈p::fq0->jn H0 (fun a=>if a∈p::fq0 then none else B a) a=none:=fun a ha=>by delta jn;simp only[if_pos ha];show(ok.out a (nb a ha)).1
   have own:∀ a,jn H0 B a=none->a∉p::fq0:=fun a h z=>nb a z (Z8 h).1
   have O:Rl K F0 (jn H0 (fun a=>if a∈p::fq0 then none else B a)) (fun a=>if a∈p::fq0 then B a else F a) H σ ρ:=by
    show⟨⟨i.ext.ff.trans sF,fun b u e=>?_,fun b u e=>?_,fun b e n=>?_,fun b o u e=>?_⟩,i.len,fun j d e=>?_,fun j ds e=>?_,i.inj,fun j q ds e=>?_,i.obn,i.ob1⟩
    .by_cases z:b∈p::fq0
     .rw[Z b z]at e;ext e
     .rw[N b z]at e;show i.ext.hh b u e
    .by_cases z:b∈p::fq0
     .have e:B b=some u:=by
       have e:(if b∈p::fq0 then B b else F b)=some u:=e
       rw[if_pos z]at e;show e
      show i.ext.hh b u (Z7 e)
     .have e:F b=some u:=by
       have e:(if b∈p::fq0 then B b else F b)=some u:=e
       rw[if_neg z]at e;show e
      show i.fh b u e
    .by_cases z:b∈p::fq0
     .exact Z b z
     .rw[N b z]
      have n:(if b∈p::fq0 then B b else F b)≠none:=n
      rw[if_neg z]at n
      show i.ext.new b e n
    .by_cases z:b∈p::fq0
     .have e:(if b∈p::fq0 then B b else F b)=some (.frz o u):=e
      rw[if_pos z]at e
      show absurd e (ok.plain b o u)
     .have e:(if b∈p::fq0 then B b else F b)=some (.frz o u):=e
      rw[if_neg z]at e
      show i.ext.nf b o u e
    .let⟨v,a1,a2⟩:=i.sh j d e
     show⟨v,a1,a2.mono sF⟩
    .let⟨q,ys,a1,a2,a3,a4,a5⟩:=i.own j ds e
     have z:=own q a5
     show⟨q,ys,a1,by show (if q∈p::fq0 then B q else F q)=none;rw[if_neg z];show a2,a3,a4.mono sF,by rw[N q z];show a5⟩
    .let⟨a1,a2,a3,ys,a4,a5⟩:=i.ob j q ds e
     have z:=own q a3
     show⟨a1,by show (if q∈p::fq0 then B q else F q)=none;rw[if_neg z];show a2,by rw[N q z];show a3,ys,a4,a5.mono sF⟩
   show O
  .have sF:Same F (fun a=>if a∈p::fq0 then B a else F a):=fun a o e=>by
    have:a∉p::fq0:=fun z=>by rw[I a z]at e;ext e
    show (if a∈p::fq0 then B a else F a)=some o
    rw[if_neg this];show e
   show⟨fun a h=>?_,G.mono sF fun a ha=>?_,(List.nodup_append.mp nd).2.1,fun a o u e=>?_⟩
   .have h:(if a∈p::fq0 then none else B a)≠none:=h
    by_cases z:a∈p::fq0
    .rw[if_pos z]at h;show absurd rfl h
    .rw[if_neg z]at h;show ok.out a h
   .show (if a∈p::fq0 then none else B a)=B a
    rw[if_neg (Y a ha)]
   .have e:(if a∈p::fq0 then none else B a)=some (.frz o u):=e
    by_cases z:a∈p::fq0
    .rw[if_pos z]at e;ext e
    .rw[if_neg z]at e;show ok.plain a o u e
  .have sF:Same F (fun a=>if a∈p::fq0 then B a else F a):=fun a o e=>by
    have:a∉p::fq0:=fun z=>by rw[I a z]at e;ext e
    show (if a∈p::fq0 then B a else F a)=some o
    rw[if_neg this];show e
   show .lst (SqL.of (by show (if p∈p::fq0 then B p else F p)=_;rw[if_pos (by simp)];show b0)) (fl.shared sF fun a ha=>by show (if a∈p::fq0 then B a else F a)=_;rw[if_pos (mem_cons_of_mem _ ha)])
theorem RlW.freezeR {i:Nat}{p:Addr}{fs:List Fl}(r:RlW K F0 H0 F H σ ρ β)(hi:ρ[i]? =some (some (.sh (.ptr p))))(N:β.lookup p=some (.row fs)):∃ F',Same F F'/\RlW K F0 H0 F' H σ (ρ.set i (some (.sh (.lst (fs.map flS))))) (delB p β):=by
 let⟨F',z,⟨B,fp,j,ok⟩,rp⟩:=r.openB N
 let⟨v,I,G⟩:=j.sh i _ hi
 ext G
 have:=j.set (i:=i) rp
 rw[yh9 I]at this
 show⟨F',z,B,fp,this,ok⟩
end
noncomputable def E2 (i:Nat)(m:MW):MW:=fun ρ β=>match ρ[i]? with
 |some (some (.sh (.ptr p)))=>(match β.lookup p with |some (.row fs)=>m (ρ.set i (some (.sh (.lst (fs.map flS))))) (delB p β)|_=>none)
 |_=>none
theorem zr2 {X:Cx}{sts:List Stmt}{m:MW}(i:Nat)(h:PSsw X sts m):PSsw X sts (E2 i m):=PSs.imp h fun D σ H j=>by
 let⟨F0,H0,F,ρ,β,o,z,r,e,ok⟩:=j
 delta E2 at e
 split at e
 .rename_i p h1
  split at e
  .rename_i fs h2
   let⟨F',s,G⟩:=r.freezeR h1 h2
   show⟨F0,H0,F',_,_,o,z,G,e,ok.mono s⟩
  .cases e
 .cases e
end
section
section
variable {K:W.Frag}{F0 J F H:Hp}{σ:St}{ρ:Ro}
end
section
variable {X:Cx}{a b c e e1 e2:Expr}{pos p1 p2:Pos}{st:Stmt}
end
end
section
section
variable {X:Cx}{a b e:Expr}{pos:Pos}{ta tb:TE}{ma mb:Ro->Bx->Option D}
end
end
section
section
variable {X:Cx}{pos:Pos}
end
end
section
section
variable {X:Cx}{st:Stmt}{rest:List Stmt}{e o c:Expr}{es:List Expr}{pos apos:Pos}{mo:ME}{m:ML}
end
section
variable {X:Cx}{pos np hpos:Pos}
end
section
variable {X:Cx}{e:Expr}{es:List Expr}{st:Stmt}{E:XK}{mf:MFW}{m:ML}
end
end
section
section
variable {X:Cx}{e:Expr}{es:List Expr}{st:Stmt}{E:XK}{mf:MF}{m:ML}{pos:Pos}
end
section
variable {X:Cx}{e:Expr}{es:List Expr}{pos:Pos}{x:Ro->Bx->Option D}{m:Ro->Bx->Option (List D)}
end
section
variable {K:W.Frag}{F0 J F H:Hp}{σ:St}{ρ:Ro}
end
section
variable {X:Cx}{e:Expr}{E:XK}{mf:MF}
end
end
section
section
variable {X:Cx}{e o:Expr}{E:XK}{mf:MF}{mo:ME}
end
end
section
section
variable {X:Cx}{e:Expr}{es:List Expr}{st:Stmt}{rest:List Stmt}{E:XK}{mf:MFW}{m:MLm}
end
end
end L2
namespace L2
open List
open PySem PySem.Spec PyProof.Rows PySem.W
section
section
variable {M:Model}{A:Around}{E:Value->Shared->Prop}{s:Shared}
end
section
variable {B h h':Heap}{l:List Env}{e C L:Addr}{cls a0 fl:Value}
end
section
variable {X:Cx}{e:Expr}{es:List Expr}{pos:Pos}
end
section
variable {X:Cx}
end
end
section
section
variable {X:Cx}{e:Expr}{pos:Pos}
end
section
variable {X:Cx}{pins:List (Addr×Obj)}{σ:St}{H:Hp}{s:Shared}
end
end
section
section
variable {X:Cx}{st:Stmt}{rest:List Stmt}{e c:Expr}{es:List Expr}{pos:Pos}
end
open Classical in
section
variable {X:Cx}
end
end
end L2
namespace L2
open List
open PySem PySem.Spec PyProof.Rows
section
section
variable {X:Cx}{pos np hpos:Pos}
end
end
section
section
variable {X:Cx}{a b:Expr}{ma mb:ME}{na nb:MEm}{pos:Pos}
end
section
variable {X:Cx}{a b:Expr}{ca cb:Ro->Bx->Option (Bool×Bx)}{pos:Pos}
end
end
section
section
variable {X:Cx}{e:Expr}{es:List Expr}{st:Stmt}{E:XK}{mf:MFW}{m:ML}
end
end
section
section
variable {X:Cx}{e o:Expr}{pos:Pos}{ma mo:ME}
end
end
section
section
variable {X:Cx}{pos:Pos}{e:Expr}{ma mb:ME}
end
end
section
section
variable {X:Cx}{tg e:Expr}{ma mb:ME}{pos:Pos}
variable {a b:Expr}
end
end
section
section
variable {es:List Expr}{env:Env}
end
end
section
end
section
section
variable {prog:Program}{w:World}{A:Around}{E:Value->Shared->Prop}{s:Shared}
end
section
variable {X:Cx}{a:Addr}{pos:Pos}{e:Expr}
end
end
section
section
variable {K:W.Frag}{F0 H0 F H B:Hp}{σ:St}{ρ:Ro}{β:Bx}{fp:List Addr}
end
section
variable {X:Cx}{a b c e:Expr}{pos:Pos}{st:Stmt}{rest:List Stmt}
end
end
section
section
variable {K:W.Frag}{F0 H0 F H B:Hp}{σ:St}{ρ:Ro}{β:Bx}{fp:List Addr}
end
section
variable {X:Cx}{a b c e:Expr}{pos:Pos}{st:Stmt}{rest:List Stmt}{E:XK}
end
end
section
@[irreducible] noncomputable def Z1 (src:List (Option Nat))(mi:MLm)(i j:Nat)(elt:MEm):MEm:=fun ρ=>match mi ρ with
 |some (its,ρ1)=>R9 src (fun _=>some its) i j elt ρ1
 |none=>none
theorem zx6 {K:W.Frag}{src:List (Option Nat)}{U:MLm}{i j:Nat}{G:MEm}(hs:src[j]? =some (some i))(hj:j≠0){σ:St}{H:Hp}{Q:VK}(h:TDm K (Z1 src U i j G) σ H Q):M5 src (TIm K U) (X3 0) tYes (TDm K G) σ H Q:=by
 let⟨F0,H0,F,ρ,g,ρ',Z,e,q⟩:=h
 delta Z1 at e
 split at e
 .rename_i its ρ1 h0
  delta R9 at e
  split at e
  .rename_i rr r0 hi
   simp only at e
   split at e
   .rename_i out ρb h2
    split at e
    .rename_i r1 h3
     ext e
     show⟨F0,H0,F,ρ,its,ρ1,Z,h0,fun J F1 H1 z s1 I p hp=>?_⟩
     let⟨a1,a2,a5,ys,Y,a4⟩:=z.ob i rr r0 hi
     have N:rr≠p:=fun w=>by rw[w,hp]at Y;ext Y
     show zx5 z.fh hp N hj I (z.blkJB hs hi hp) (O8 hs a1) h2 h3 fun xs zs F' H' O b1 b2 b3 b4 b5=>q _ _ _ (z.lentB hi O b1 b2 b3) (s1.trans O.ff) (.lst (SqL.of b4) b5)
    .cases e
   .cases e
  .cases e
 .cases e
theorem zj3 {X:Cx}{st:Stmt}{k i j:Nat}{src:List (Option Nat)}{G:MLm}{I:MEm}(z:src[j]? =some (some i))(N:j≠0)(h:PS X st (tAsg (M5 src (TIm X.K G) (X3 0) tYes (TDm X.K I)) (X3 k))):PSd X st (Z6 k (Z1 src G i j I)):=xd8 h fun _ _ _ q=>zx6 z N q
theorem yx2 {X:Cx}{pos:Pos}{sc:Scope}{N:List Str}{src:List (Option Nat)}{tg z iter:Expr}{O:MLm}{i j:Nat}{G:MEm}(I:src[j]? =some (some i))(U:j≠0)(B:Blk X sc N src)(hc:X.calm=true)
  (hi:PI X tg iter (TIm X.K O)) (Y:∀ C fp s H,PG (d4 X sc C N fp s H) tg (X3 0)) (Z:∀ C fp s H,PDm (d4 X sc C N fp s H) z G)
  (hs:∀ x,foldedSetIterable iter X.env x=pure x:=by intro _;rfl):
  PDm X (.ListComp z [⟨tg,iter,[],0⟩] sc pos) (Z1 src O i j G):=(C2 (g:=X3 0) (tc:=tYes) (te:=TDm X.K G) B hc hi Y (fun C fp s H=>zv3) (fun C fp s H=>Z C fp s H) hs).imp fun _ _ _ h=>zx6 I U h
end
section
open Classical in
@[irreducible] noncomputable def zq6 (j i:Nat)(mf:MG)(m:ML):MS:=fun ρ=>match ρ[i]? with
 |some (some (.own r0))=>(match m ρ with
  |some ds=>(match anyP fun p=>mf p r0 ds with
   |some (.fr gs,r1)=>if r1=r0/\X8 r0=true/\X8 ds=true/\X8 gs=true then some (.nx (ρ.set j (some (.own gs))))else none
   |_=>none)
  |none=>none)
 |_=>none
section
variable {X:Cx}{e:Expr}{es:List Expr}{pos:Pos}{mf:MG}{m:ML}{E:XK}
theorem yt5 {n i j:Nat}{x y:Str}{U pos':Pos}(hN:X.N.Nodup)(hi:X.N[j]? =some y)(hx:Loc X.env.scope y)(h:∀ t,PA X (.Name x U::es) t->PE X e (zk3 (spG X.K n mf) [] E t))(hl:es.length+1=n)(hv:PE X (.Name x U) (tVar i))(ha:PAs X es m)(hm:∀ ρ ds,m ρ=some ds->ds.length=es.length)
  (hs:starEach (.Name x U::es) X.env=(false,eval (.Name x U) X.env)::starEach es X.env:=by rfl) (hw:swapsWith e (some (.Name y pos')) pos.line X.env=pure false:=by rfl) (hf:X.fn y=true\/X.env.scope.names.lookup y=some .local:=by first|show .inl rfl|show .inr rfl|assumption):
  PSd X (.Assign [.Name y pos'] e pos) (zq6 j i mf m):=(zr6 hN hi hx (h _ (j4 hv ha hs)) hw hf).imp fun D σ H I=>by
 let⟨F0,H0,F,ρ,o,rl,e,ok⟩:=I
 delta zq6 at e
 split at e
 .rename_i r0 h0
  let⟨p,aa,a1,a2,a3,a4,a5⟩:=rl.own i _ h0
  split at e
  .rename_i ds h1
   split at e
   .rename_i gs r1 h2
    split at e
    .rename_i hh
     let⟨e1,f0,fd,fg⟩:=hh
     subst e1
     ext e
     have h2:=zm4 h2
     show⟨_,a1,F0,H0,F,ρ,ds,rl,h1,fun vs F1 H1 x1 rv=>?_⟩
     have G:=rl.go x1
     let⟨p',xs,c1,c2,O,rs,c5⟩:=G.own i _ h0
     rw[a1]at c1;ext c1
     show spG X.K n mf ((.ref p::vs)++[]) H1 _ E
     rw[append_nil]
     show⟨by rw[length_cons,rv.length,hm ρ ds h1,hl],p,vs,fun _=>none,r1,ds,_,_,xs,rfl,O,rfl,(fun b o z=>by ext z),V5 f0 rs,V5 fd rv,h2 p,?_⟩
     intro q ys F' H' Z x2 Y ab a9 a6 fp a8 rp
     have a7:Z=xs:=D6 f0 rp rs
     subst a7
     have same:Same H1 H':=fun b o z=>by
      by_cases hb:b=p
      .subst hb;rw[O]at z;ext z;show a8
      .exact x2.hh b o (by rw[U8 hb];show z)
     have x3:Ext F1 H1 F1 H':=⟨Same.refl F1,same,G.fh.trans same,fun b e n=>absurd e n,fun _ _ _ z=>z⟩
     show ok F1 H' _ ((G.go x3).setOwn (G.fh.free Y) a9 (V5 fg a6) (G.ext.hh.free Y) (fun k es hk e1 e2=>?_) fun k q' es e1 z=>?_) x1.ff
     .let⟨q2,zs,b1,b2,b3,_⟩:=G.own k es e1
      rw[b1]at e2;ext e2
      rw[Y]at b3;ext b3
     .let⟨_,_,_,zs,b3,_⟩:=G.ob k q' es e1
      rw[z,Y]at b3;ext b3
    .cases e
   .cases e
  .cases e
 .cases e
end
end
end L2
set_option maxHeartbeats 4000000
namespace Lw
open List
open PySem L2
noncomputable abbrev k0a (r:List Int):Option S:=some (.sh (.lst (r.map .int)))
noncomputable abbrev k0b (k:Nat):Option S:=some (.sh (.int (k:Int)))
noncomputable abbrev k0c (k:Int):Option S:=some (.sh (.int k))
section
noncomputable section
noncomputable def xo0:MS:=(mif (v3 (m2 ltD (mvar 0) (mc (.int 1)))) yp6 Y9)
noncomputable def yo8:MF:=runB 1 xo0
noncomputable def yz8:MS:=(mseq (mapp 2 (mlst (X0 [none,some 1,some 5,some 0] (t9 rng2 (z5 (m2 addD (mvar 4) (mc (.int 1))) (z5 (mlen (bvar 0)) anil))) (.nm 0) (v3 (m2 geD (m2 subD (mix (bvar 3) (mvar 0)) (mvar 2)) (mvar 1))) (mvar 0)))) (mapp 3 (mlst (X0 [none,some 1,some 5,some 0] (t9 rng2 (z5 (m2 addD (mvar 4) (mc (.int 1))) (z5 (mlen (bvar 0)) anil))) (.nm 0) (v3 (m2 geD (m2 subD (mvar 2) (mix (bvar 3) (mvar 0))) (mvar 1))) (mvar 0)))))
noncomputable def yz7:MS:=(d5 3 (d5 2 (mret (mtup (z5 (mvar 2) (z5 (mvar 3) anil))))))
noncomputable def xo1:MS:=(mseq (d3 2 (w8 anil)) (mseq (d3 3 (w8 anil)) (mseq (mfor (t9 zg5 (z5 (mvar 0) anil)) (.tp [4,5]) yz8) yz7)))
noncomputable def yo9:MF:=runB 6 xo1
noncomputable def zt5:MS:=(mseq (mapp 2 (mlst (B0 [none,some 1,some 5,some 0] (t9 rng2 (z5 (m2 addD (mvar 4) (mc (.int 1))) (z5 (mlen (bvar 0)) anil))) (.nm 0) (v3 (m2 geD (m2 subD (mix (bvar 3) (mvar 0)) (mvar 2)) (mvar 1))) (mvar 0)))) (mapp 3 (mlst (B0 [none,some 1,some 5,some 0] (t9 rng2 (z5 (m2 addD (mvar 4) (mc (.int 1))) (z5 (mlen (bvar 0)) anil))) (.nm 0) (v3 (m2 geD (m2 subD (mvar 2) (mix (bvar 3) (mvar 0))) (mvar 1))) (mvar 0)))))
noncomputable def yi3:MS:=(d5 3 (d5 2 (U2 0 (mpu (mtup (z5 (mvar 2) (z5 (mvar 3) anil)))))))
noncomputable def b_Z4:MS:=(mseq (d3 2 (w8 anil)) (mseq (d3 3 (w8 anil)) (mseq (zp1 0 (.tp [4,5]) zt5) yi3)))
noncomputable def m_Z4:MG:=runG 6 b_Z4
noncomputable def zm2:MS:=(mret (mtup (z5 (m1 negD (mlen (bvar 0))) (z5 (mvar 0) anil))))
noncomputable def L9:MF:=runB 1 zm2
noncomputable def b_Z3:MS:=(mret (L7 (X0 [none,some 0] (u6 (mvar 1)) (.nm 0) cyes (mix (bvar 1) (mvar 0))) (mlst (w8 anil))))
noncomputable def m_Z3:MF:=runB 2 b_Z3
noncomputable def zf2:MS:=(mseq (U0 6 (mvar 10) (mlst (mcat (w8 (z5 (mvar 10) anil)) (u6 (zh0 8 (n4 m_Z3 (z5 (mvar 8) (z5 (mix (bvar 2) (mvar 10)) anil)))))))) (mseq (U0 7 (mvar 10) (mlst (mcat (w8 (z5 (mvar 10) anil)) (u6 (zh0 9 (n4 m_Z3 (z5 (mvar 9) (z5 (mix (bvar 3) (mvar 10)) anil)))))))) (mseq (U0 8 (mvar 10) (C8 (fun d=>shOf (L9 [d])) (z5 (mix (bvar 6) (mvar 10)) (z5 (mix (bvar 5) (mvar 10)) anil)))) (U0 9 (mvar 10) (C8 (fun d=>shOf (L9 [d])) (z5 (mix (bvar 7) (mvar 10)) (z5 (mix (bvar 4) (mvar 10)) anil)))))))
noncomputable def yi2:MS:=(d5 6 (d5 7 (mret (mtup (z5 (mvar 6) (z5 (mvar 7) anil))))))
noncomputable def b_Z5:MS:=(mseq (masg (.tp [2,3]) (mvar 0)) (mseq (masg (.tp [4,5]) (mvar 1)) (mseq (d3 6 (mrep (w8 (z5 (mlst (w8 anil)) anil)) (mlen (bvar 2)))) (mseq (d3 7 (mrep (w8 (z5 (mlst (w8 anil)) anil)) (mlen (bvar 2)))) (mseq (d3 8 (mrep (w8 (z5 (mlst (w8 anil)) anil)) (mlen (bvar 2)))) (mseq (d3 9 (mrep (w8 (z5 (mlst (w8 anil)) anil)) (mlen (bvar 2)))) (mseq (mfor (t9 rngD (z5 (mlen (bvar 2)) anil)) (.nm 10) zf2) yi2)))))))
noncomputable def m_Z5:MF:=runB 11 b_Z5
noncomputable def xp8:MS:=(mret (mtup (z5 (mlst (mrep (w8 (z5 (mlst (w8 anil)) anil)) (mlen (bvar 0)))) (z5 (mlst (mrep (w8 (z5 (mlst (w8 anil)) anil)) (mlen (bvar 0)))) anil))))
noncomputable def yd8:MF:=runB 1 xp8
noncomputable def xp9:MS:=(U2 0 (mpu (mtup (z5 (mlst (mrep (w8 (z5 (mlst (w8 anil)) anil)) (mlen (bvar 0)))) (z5 (mlst (mrep (w8 (z5 (mlst (w8 anil)) anil)) (mlen (bvar 0)))) anil)))))
noncomputable def yd9:MG:=runG 1 xp9
noncomputable def xo4:MS:=(mseq (masg (.tp [1,2]) (mvar 0)) (mret (yx5 (fun d=>shOf (L9 [d])) (u6 (m2 addD (mvar 1) (mvar 2))) (mlst (w8 anil)))))
noncomputable def zu8:MF:=runB 3 xo4
noncomputable def zt6:MS:=(U0 3 (mvar 4) (m2 addD (mc (.int 1)) (zp0 (C9 [none,some 3] (u6 (m2 addD (mix (bvar 1) (mvar 4)) (mix (bvar 2) (mvar 4)))) (.nm 0) cyes (mix (bvar 1) (mvar 0))) (mc (.int 0)))))
noncomputable def yz9:MS:=(d5 3 (mret (zp0 (bvar 3) (mc (.int 0)))))
noncomputable def ya4:MS:=(mseq (masg (.tp [1,2]) (mvar 0)) (mseq (d3 3 (mrep (w8 (z5 (mc (.int 0)) anil)) (mlen (bvar 1)))) (mseq (mfor (t9 rngD (z5 (mlen (bvar 1)) anil)) (.nm 4) zt6) yz9)))
noncomputable def yc1:MF:=runB 5 ya4
noncomputable def K4:MS:=(mseq (mset 4 (n4 m_Z5 (z5 (mvar 2) (z5 (mvar 4) anil)))) (mapp 5 (mlen (u6 (n4 zu8 (z5 (mvar 4) anil))))))
noncomputable def b_Z6:MS:=(mseq (zi9 (n4 yo8 (z5 (mvar 1) anil))) (mseq (mset 2 (B3 0 (n4 yo9 (z5 (mvar 0) (z5 (mvar 1) anil))))) (mseq (mset 3 (n4 yc1 (z5 (mvar 2) anil))) (mseq (mset 4 (n4 m_Z5 (z5 (mvar 2) (z5 (B3 0 (n4 yd8 (z5 (mvar 0) anil))) anil)))) (mseq (d3 5 (w8 (z5 (mlen (u6 (n4 zu8 (z5 (mvar 4) anil)))) anil))) (mseq (R1 (v3 (m2 ltD (mix (bvar 5) (m1 negD (mc (.int 1)))) (mvar 3))) K4 1000) (yp1 5)))))))
noncomputable def m_Z6:MF:=runB 6 b_Z6
noncomputable def zf3:MS:=(mseq (mset 4 (n4 m_Z5 (z5 (mvar 2) (z5 (mvar 4) anil)))) (mapp 5 (mlen (u6 (n4 zu8 (z5 (mvar 4) anil))))))
noncomputable def b_Z0:MS:=(mseq (zi9 (n4 yo8 (z5 (mvar 1) anil))) (mseq (Z6 2 (y8 m_Z4 0 (apu (z5 (mvar 1) anil)))) (mseq (mset 3 (n4 yc1 (z5 (mvar 2) anil))) (mseq (Z6 4 (zp2 m_Z5 (j3 (mpu (mvar 2)) (j3 (y8 yd9 0 (apu anil)) (apu anil))))) (mseq (d3 5 (w8 (z5 (mlen (u6 (n4 zu8 (z5 (mvar 4) anil)))) anil))) (mseq (R1 (v3 (m2 ltD (mix (bvar 5) (m1 negD (mc (.int 1)))) (mvar 3))) zf3 1000) (zy9 0 5)))))))
noncomputable def m_Z0:MG:=runG 6 b_Z0
noncomputable def ya3:MS:=(mseq (U0 0 (mc (.int 1)) (m2 addD (mix (bvar 0) (mc (.int 1))) (mc (.int 1)))) (mseq (mset 2 (mix (bvar 0) (mc (.int 0)))) (mseq (mif (v3 (m2 geD (mvar 2) (m2 powD (mc (.int 10)) (mc (.int 18))))) (mseq (U0 0 (mc (.int 0)) (m2 zo6 (mvar 2) (mvar 1))) (U2 0 (mpu (m2 modD (mvar 2) (mvar 1))))) Y9) (mseq (mset 3 (m2 modD (m2 addD (m2 addD (m2 mulD (mvar 2) (mc (.int 69621))) (m2 mulD (mix (bvar 0) (mc (.int 1))) (mc (.int 7919)))) (mc (.int 13))) (mc (.int 2147483647)))) (mseq (mset 3 (m2 modD (m2 mulD (mvar 3) (mvar 3)) (mc (.int 2147483629)))) (U2 0 (mpu (m2 modD (m2 zo6 (m2 modD (m2 addD (m2 mulD (mvar 3) (mc (.int 48271))) (m2 mulD (mix (bvar 0) (mc (.int 1))) (mc (.int 40692)))) (mc (.int 2147483587))) (mc (.int 8))) (mvar 1)))))))))
noncomputable def u4:MG:=runG 4 ya3
noncomputable def Q8:MFP:=runP 1 (v3 (m2 eqSD (mlen (bvar 0)) (mc (.int 0)))) (yp9 (w8 (z5 (mc (.int 0)) (z5 (mc (.int 0)) anil)))) (Q0 [none] (u6 (mlst (mcut (bvar 0) zv7 (G1 (mc (.int 63)))))) (.nm 0) (w8 (z5 (mvar 0) (z5 (mc (.int 0)) anil))))
noncomputable def b_Z1:MS:=(mseq (mif (v3 (m2 eqSD (mvar 1) (mc (.int 0)))) (U2 0 (y8 u4 0 (apu (z5 (mc (.int 4)) anil)))) Y9) (mseq (mif (v3 (m2 eqSD (mvar 1) (mc (.int 1)))) (U2 0 (m2m subD (y8 u4 0 (apu (z5 (mc (.int 21)) anil))) (mpu (mc (.int 10))))) Y9) (mseq (mif (v3 (m2 eqSD (mvar 1) (mc (.int 2)))) (U2 0 (m2m subD (y8 u4 0 (apu (z5 (mc (.int 1001)) anil))) (mpu (mc (.int 500))))) Y9) (U2 0 (m2m mulD (m2m ixLD (mpu (mlst (w8 (z5 (m1 negD (mc (.int 1))) (z5 (mc (.int 1)) anil))))) (y8 u4 0 (apu (z5 (mc (.int 2)) anil)))) (m2m addD (mpu (m2 powD (mc (.int 10)) (mc (.int 29)))) (y8 u4 0 (apu (z5 (mc (.int 1000)) anil)))))))))
noncomputable def m_Z1:MG:=runG 2 b_Z1
noncomputable def xo3:MS:=(mseq (Z6 2 (y8 u4 0 (apu (z5 (mc (.int 4)) anil)))) (mseq (Z6 3 (y8 u4 0 (j3 (m2m ixLD (mpu (mlst (w8 (z5 (X6 yx8 (z5 (mc (.int 4)) (z5 (m2 addD (mvar 1) (mc (.int 1))) anil))) (z5 (X6 yx8 (z5 (mc (.int 9)) (z5 (m2 addD (mvar 1) (mc (.int 1))) anil))) (z5 (m2 addD (mvar 1) (mc (.int 1))) anil)))))) (y8 u4 0 (apu (z5 (mc (.int 3)) anil)))) (apu anil)))) (mseq (Z6 4 (R9 [none,some 0,some 2] (t9 rng1 (z5 (mvar 3) anil)) 0 1 (y8 m_Z1 1 (apu (z5 (mvar 2) anil))))) (mseq (Z6 5 (y8 u4 0 (apu (z5 (mc (.int 6)) anil)))) (mseq (mif (v3 (m2 eqSD (mvar 5) (mc (.int 0)))) (mset 4 (mlst (E1 (bvar 4)))) Y9) (mseq (mif (v3 (m2 eqSD (mvar 5) (mc (.int 1)))) (mset 4 (mlst (X0 [none,none] (t9 zg5 (z5 (mvar 4) anil)) (.tp [0,1]) cyes (m2 addD (mvar 1) (mix (w8 (z5 (mc (.int 7)) (z5 (m1 negD (mc (.int 7))) anil))) (m2 modD (mvar 0) (mc (.int 2)))))))) Y9) (mseq (mif (v3 (m2 eqSD (mvar 5) (mc (.int 2)))) (mset 4 (mlst (mrep (mcut (bvar 4) zv7 (G1 (mc (.int 1)))) (mvar 3)))) Y9) (U2 0 (mpu (mvar 4))))))))))
noncomputable def yc0:MG:=runG 6 xo3
noncomputable def b_Z7:MS:=(U2 0 (m2m ixLD (yp8 (j3 (mpu (mc (.int 1))) (j3 (mpu (mc (.int 1))) (j3 (m2m addD (mpu (mc (.int 1))) (y8 u4 0 (apu (z5 (mc (.int 4)) anil)))) (j3 (m2m addD (mpu (mc (.int 1))) (y8 u4 0 (apu (z5 (mc (.int 40)) anil)))) (apu (z5 (m2 powD (mc (.int 10)) (mc (.int 29))) anil))))))) (y8 u4 0 (apu (z5 (mc (.int 5)) anil)))))
noncomputable def m_Z7:MG:=runG 1 b_Z7
noncomputable def i4:MW:=(G2 (wS (mset 8 (X6 intF (z5 (m2 ltD (mix (bvar 0) (mvar 7)) (mix (bvar 0) (mvar 6))) anil)))) (mifW (wE (v3 (m2 geD (X6 absF (z5 (m2 subD (mix (bvar 0) (mvar 7)) (mix (bvar 0) (mvar 6))) anil)) (mvar 1)))) (G2 (zi5 9 (zu9 (mix (u6 (mix (bvar 5) (mvar 7))) (mvar 8)))) (G2 (mifW (wE (v3 (m2 gtD (mvar 4) (mc (.int 0))))) (wS (mset 9 (X6 zh3 (z5 (mvar 9) (z5 (mix (u6 (mix (u6 (mix (bvar 3) (m1 negD (mc (.int 1))))) (mvar 7))) (m2 subD (mc (.int 1)) (mvar 8))) anil))))) (wS Y9)) (yq9 5 (mvar 6) (mvar 8) (zu9 (X6 zh3 (z5 (mix (u6 (mix (bvar 5) (mvar 6))) (mvar 8)) (z5 (m2 addD (mc (.int 1)) (mvar 9)) anil))))))) (wS Y9)))
noncomputable def c6:MW:=(zi8 (t9 rng2 (z5 (m2 addD (mvar 6) (mc (.int 1))) (z5 (mlen (bvar 0)) anil))) (.nm 7) i4)
noncomputable def Q2:MW:=(E2 5 (wS (mapp 3 (mvar 5))))
noncomputable def d8:MW:=(G2 (zi8 (t9 rng3 (z5 (m2 subD (mlen (bvar 0)) (mc (.int 1))) (z5 (m1 negD (mc (.int 1))) (z5 (m1 negD (mc (.int 1))) anil)))) (.nm 6) c6) Q2)
noncomputable def d9:MW:=(ye9 5 (Q0 [none] (u6 (mvar 0)) (.nm 0) (w8 (z5 (mc (.int 1)) (z5 (mc (.int 1)) anil)))) d8)
noncomputable def X7:MW:=(zb0 3)
noncomputable def W6:MW:=(G2 (wS (d3 3 (w8 anil))) (G2 (zi8 (t9 rng1 (z5 (m2 addD (mvar 2) (mc (.int 1))) anil)) (.nm 4) d9) X7))
noncomputable def Z2:MF:=plainW (runW 10 W6)
noncomputable def xp7:MS:=(mret (zq9 (mcat (w8 (z5 (mc (.int 0)) anil)) (X0 [none] (u6 (mvar 0)) (.nm 0) cyes (zq9 (bvar 0))))))
noncomputable def zp5:MF:=runB 1 xp7
noncomputable def b_Z8:MS:=(mret (mand (misi "list" (mvar 0)) (meqB false (X0 [none] (u6 (mvar 0)) (.nm 0) (cor (mtru (misi "bool" (mvar 0))) (cnot (mtru (misi "int" (mvar 0))))) (mc (.int 1))) (w8 anil))))
noncomputable def m_Z8:MF:=runB 1 b_Z8
noncomputable def D1:MS:=(mseq (mif (v3 (m2 (inD false) (mvar 7) (mvar 3))) (mset 5 (m2 subD (mc (.int 0)) (mvar 5))) Y9) (mseq (Z6 4 (m2m addD (mpu (mvar 4)) (m2m mulD (mpu (mvar 5)) (y8 u4 0 (apu (z5 (mc (.int 4)) anil)))))) (yd7 6 (m2m addD (mpu (mvar 4)) (y8 u4 0 (apu (z5 (m2 addD (m2 zo6 (mvar 1) (mc (.int 2))) (mc (.int 1))) anil)))))))
noncomputable def xo2:MS:=(mseq (Z6 2 (m2m addD (mpu (mc (.int 100))) (y8 u4 0 (apu (z5 (mc (.int 201)) anil))))) (mseq (Z6 3 (Z1 [none,some 0,some 2] (K9 rng1 (j3 (y8 u4 0 (apu (z5 (mc (.int 8)) anil))) (apu anil))) 0 1 (y8 u4 1 (apu (z5 (mvar 2) anil))))) (mseq (mset 4 (mc (.int 0))) (mseq (mset 5 (mc (.int 1))) (mseq (d3 6 (w8 anil)) (mseq (mfor (t9 rng1 (z5 (mvar 2) anil)) (.nm 7) D1) (zy9 0 6)))))))
noncomputable def yn0:MG:=runG 8 xo2
noncomputable def xp6:MS:=(mseq (mset 3 (mlst (X0 [none] (u6 (n4 Z2 (z5 (mvar 0) (z5 (mvar 1) (z5 (mvar 2) anil))))) (.nm 0) cyes (n4 zp5 (z5 (mvar 0) anil))))) (yp2 (mcut (bvar 3) zv7 (G1 (m2 addD (yx9 (bvar 3) (mix (bvar 3) (m1 negD (mc (.int 1))))) (mc (.int 1)))))))
noncomputable def zp4:MF:=runB 4 xp6
noncomputable def b_Z2:MS:=(mseq (Z6 1 (m2m addD (mpu (mc (.int 4))) (y8 u4 0 (apu (z5 (mc (.int 9)) anil))))) (mseq (Z6 2 (y8 yn0 0 (apu (z5 (mvar 1) anil)))) (U2 0 (mpu (meqB false (u6 (n4 m_Z6 (z5 (mlst (bvar 2)) (z5 (mvar 1) anil)))) (u6 (n4 zp4 (z5 (mvar 2) (z5 (mvar 1) (z5 (mc (.int 9)) anil))))))))))
noncomputable def m_Z2:MG:=runG 3 b_Z2
noncomputable def b_Z9:MS:=(mseq (Z6 1 (Z1 [none,some 0] (K9 rng1 (j3 (m2m addD (mpu (mc (.int 1))) (y8 u4 0 (apu (z5 (mc (.int 40)) anil)))) (apu anil))) 0 1 (y8 u4 1 (apu (z5 (mc (.int 40)) anil))))) (mseq (Z6 2 (m2m addD (mpu (mc (.int 100))) (y8 u4 0 (apu (z5 (mc (.int 21)) anil))))) (U2 0 (mpu (mlst (X0 [none,some 1] (t9 rng1 (z5 (mvar 2) anil)) (.nm 0) cyes (m2 addD (mix (bvar 1) (m2 modD (mvar 0) (mlen (bvar 1)))) (mix (w8 (z5 (mc (.int 0)) (z5 (mc (.int 30)) anil))) (m2 modD (mvar 0) (mc (.int 2)))))))))))
noncomputable def m_Z9:MG:=runG 3 b_Z9
noncomputable def D0:MS:=(mseq (zq6 9 7 m_Z0 (z5 (mvar 5) anil)) (mseq (mif (cor (cnot (mtru (B3 9 (n4 m_Z8 (z5 (mvar 9) anil))))) (cor (v3 (meqB true (bvar 9) (bvar 6))) (v3 (meqB true (bvar 7) (bvar 4))))) (mret (mc (.bl false))) Y9) (mapp 9 (mc (.int 0)))))
noncomputable def S2:MS:=(mseq (mifm (G6 (cpu (v3 (m2 eqSD (mvar 1) (mc (.int 0))))) (G6 (Y7 (m2m eqSD (y8 u4 2 (apu (z5 (mc (.int 4)) anil))) (mpu (mc (.int 0))))) (yw5 (Y7 (y8 m_Z2 2 (apu anil)))))) (mret (mc (.bl false))) Y9) (mseq (mifm (G6 (cpu (v3 (m2 eqSD (mvar 1) (mc (.int 0))))) (Y7 (m2m eqSD (y8 u4 2 (apu (z5 (mc (.int 6)) anil))) (mpu (mc (.int 0)))))) (mseq (Z6 3 (y8 m_Z9 2 (apu anil))) (mif (v3 (meqB true (u6 (n4 m_Z6 (z5 (mlst (bvar 3)) (z5 (mc (.int 5)) anil)))) (u6 (n4 zp4 (z5 (mvar 3) (z5 (mc (.int 5)) (z5 (mlen (bvar 3)) anil))))))) (mret (mc (.bl false))) Y9)) Y9) (mseq (Z6 4 (y8 yc0 2 (j3 (m2m ixLD (mpu (mlst (w8 (z5 (mc (.int 30)) (z5 (mc (.int 90)) anil))))) (J6 intF (j3 (zp3 (mpu (m2 eqSD (mvar 1) (mc (.int 0)))) (m2m eqSD (y8 u4 2 (apu (z5 (mc (.int 4)) anil))) (mpu (mc (.int 0))))) (apu anil)))) (apu anil)))) (mseq (Z6 5 (y8 m_Z7 2 (apu anil))) (mseq (mset 6 (n4 zp4 (z5 (mvar 4) (z5 (mvar 5) (z5 (mlen (bvar 4)) anil))))) (mseq (d3 7 (bvar 4)) (mfor (t9 rng1 (z5 (mc (.int 2)) anil)) (.nm 8) D0)))))))
noncomputable def xp5:MS:=(mseq (zb3 (zb6 Q8 (z5 (mlst (mcut (bvar 0) zv7 (G1 (mc (.int 3))))) anil)) 1 2 S2) (mret (mc (.bl true))))
noncomputable def zh4:MF:=runB 10 xp5
end
end
section
theorem xe8 (i j:Int):eqS (.int i) (.int j)=some (i==j):=rfl
theorem xd0 (i j:Bool):eqS (.bl i) (.bl j)=some (i==j):=rfl
theorem xe3 (i j:Str):eqS (.str i) (.str j)=some (i==j):=rfl
theorem xe4:eqS .non .non=some true:=rfl
theorem xe6 (j:Bool):eqS .non (.bl j)=some false:=rfl
theorem xe9 (j:Bool):eqS (.bl j) .non=some false:=rfl
theorem xe5 (j:Int):eqS .non (.int j)=some false:=rfl
theorem xe7 (j:Int):eqS (.int j) .non=some false:=rfl
local macro_rules|`(tactic|simp_arith [$ls,*])=>`(tactic|simp(config:={decide:=true,implicitDefEqProofs:=false}) only[runB,u0,map_cons,map_nil,length_cons,length_nil,List.replicate,cons_append,nil_append,mvar,bvar,mc,mlst,u6,m2,v3,subD,mulD,zo6,modD,powD,ltD,leD,gtD,geD,eqSD,neSD,xe8,xd0,xe3,xe4,xe6,xe9,xe5,xe7,m1,negD,mand,mtru,truD,cor,cnot,anil,z5,w8,mtup,mlen,mix,zv7,G1,mcut,mcat,addD,X6,absF,zh3,yx8,two2,intF,Y9,mseq,mif,yp6,mset,d3,zi9,mret,yp2,yp1,mapp,U0,d5,masg,t9,zg5,cyes,n4,meqB,misi,tyD,int2,bl2,tgD,D5,Option.bind_some,Option.map_some,Option.bind_none,Option.map_none,getElem?_cons_zero,getElem?_cons_succ,set_cons_zero,set_cons_succ,isEmpty_cons,isEmpty_nil,Bool.not_true,Bool.not_false,$ls,*])
noncomputable def stir (c k:Int):Int:=if 10^18<=c then (c-10^18) / 2^(28*k).toNat % 2^28 else
 (((c+1013*k+1)*16807 % 2147483647)*((c+1013*k+1)*16807 % 2147483647) % 2147483629)*39373 % 2147483587 / 8
theorem C5 (i j:Int)(h1:-(2^64)<j)(h2:j<2^64):O1 i j=true:=by
 delta O1;simp only[h1,h2,decide_true,Bool.and_self,Bool.or_true]
theorem yq7 (i j:Int)(h1:-(2^64)<i)(h2:i<2^64):O1 i j=true:=by
 delta O1;simp only[h1,h2,decide_true,Bool.and_self,Bool.true_or]
theorem W4 (i j:Int)(h:0<j):zu2 i j=true:=by delta zu2;simp only[h,decide_true]
theorem seqI {x y:MS}{ρ ρ':Ro}{o:Option Out}(h:x ρ=some (.nx ρ'))(h2:y ρ'=o):mseq x y ρ=o:=by
 delta mseq;rw[h];show h2
noncomputable def xw4 {α:Type}(I:List α->Ro->Prop)(Q:Out->Prop)(ds:List α):Out->Prop
 | .nx ρ=>I ds ρ| .ct ρ=>I ds ρ| .bk ρ=>Q (.nx ρ)| .rt d=>Q (.rt d)| .rf es=>Q (.rf es)| .rp d es=>Q (.rp d es)| .rg d p r=>Q (.rg d p r)| .rgf d p r=>Q (.rgf d p r)
theorem A6 {α:Type}{g:Tg}{body:MS}{f:α->D}(I:List α->Ro->Prop)(Q:Out->Prop)
  (hs:∀ d ds ρ,I (d::ds) ρ->∃ ρ1 o,tgD g (f d) ρ=some ρ1/\body ρ1=some o/\xw4 I Q ds o) (hd:∀ ρ,I [] ρ->Q (.nx ρ)):
  ∀(ds:List α)(ρ:Ro),I ds ρ->∃ o,forD g body (ds.map f) ρ=some o/\Q o
 |[],ρ,h=>⟨.nx ρ,rfl,hd ρ h⟩
 |d::ds,ρ,h=>by
  let⟨ρ1,o,h1,h2,j⟩:=hs d ds ρ h
  rw[map_cons]
  unfold forD
  rw[h1]
  simp only[h2]
  cases o with
  |nx i=>show A6 I Q hs hd ds i j
  |ct i=>show A6 I Q hs hd ds i j
  |bk i=>show⟨_,rfl,j⟩
  |rt d=>show⟨_,rfl,j⟩
  |rf d=>show⟨_,rfl,j⟩
  |rp d es=>show⟨_,rfl,j⟩
  |rg d p r=>show⟨_,rfl,j⟩
  |rgf d p r=>show⟨_,rfl,j⟩
theorem U9 {α:Type}{g:Tg}{c:MB}{i:ME}{f:α->D}{G:α->D}(I:List α->Ro->Prop)
  (hs:∀ d ds ρ,I (d::ds) ρ->∃ ρ1,tgD g (f d) ρ=some ρ1/\c ρ1=some true/\i ρ1=some (G d)/\I ds ρ1):
  ∀(ds:List α)(ρ:Ro)(acc:List D),I ds ρ->acc.length+ds.length<=sizeLine->Y1 g c i (ds.map f) ρ acc=some (acc++ds.map G)
 |[],ρ,acc,h,hl=>by simp[Y1]
 |d::ds,ρ,acc,h,hl=>by
  let⟨ρ1,h1,h2,z,j⟩:=hs d ds ρ h
  rw[map_cons]
  unfold Y1
  rw[h1]
  simp only[h2,z]
  rw[length_cons]at hl
  rw[if_pos (by lia),U9 I hs ds ρ1 _ j (by simp;lia)]
  simp
noncomputable def cutI {α:Type}(xs:List α)(lo hi:Option Int):List α:=(xs.drop (HT.sIx xs.length 0 lo)).take (HT.sIx xs.length xs.length hi-HT.sIx xs.length 0 lo)
theorem E8 {α:Type}(f:α->D)(xs:List α)(lo hi:Option Int):cutL (xs.map f) lo hi=(cutI xs lo hi).map f:=by
 delta cutL cutI;rw[length_map,<-map_drop,<-map_take]
theorem yk7 {α:Type}(xs:List α)(k:Nat):cutI xs none (some (k:Int))=xs.take k:=by
 delta cutI
 rw[HT.sIx_nat,HT.sIx_none]
 simp
theorem zt7 {α:Type}(f:α->D)(xs:List α)(k:Int)(j:0<=k)(h1:k<xs.length)(dflt:α):atI (xs.map f) k=some (f (xs.getD k.toNat dflt)):=by
 delta atI ixN
 rw[length_map,if_pos j,if_pos h1]
 have i:k.toNat<xs.length:=by lia
 simp[getElem?_map,i]
theorem atI_last {α:Type}(f:α->D)(xs:List α)(x:α):atI ((xs++[x]).map f) (-1)=some (f x):=by
 delta atI ixN
 rw[length_map,if_neg (by decide),if_pos (by simp;lia)]
 have e:(-1+((xs++[x]).length:Int)).toNat=xs.length:=by simp;lia
 rw[e]
 simp
theorem T8 {n:Nat}{m:MS}{ds:List D}{d:D}(h:m (u0 n ds)=some (.rt d)):runB n m ds=some (.sh d):=by delta runB;rw[h]
theorem yu9 {n:Nat}{m:MS}{ds:List D}{d:List D}(h:m (u0 n ds)=some (.rf d)):runB n m ds=some (.fr d):=by delta runB;rw[h]
noncomputable def after (rest:MS):Out->Option Out
 | .nx ρ=>rest ρ| .bk ρ=>some (.bk ρ)| .ct ρ=>some (.ct ρ)| .rt d=>some (.rt d)| .rf d=>some (.rf d)| .rp d es=>some (.rp d es)| .rg d p r=>some (.rg d p r)| .rgf d p r=>some (.rgf d p r)
theorem h7 {x y:MS}{ρ:Ro}{o:Out}(h:x ρ=some o):mseq x y ρ=after y o:=by
 delta mseq;rw[h];ext o <;> rfl
theorem xg8 (i j:Int):(if j<i then j else i)=min i j:=by lia
theorem n5:1000000<=sizeLine:=by rw[show sizeLine=2^24 from rfl];decide
theorem w5 {n:Nat}(h:n<=1000000):n<=sizeLine:=Nat.le_trans h n5
theorem zy5 (j n:Nat)(h:j<n):List.range' j (n-j)=j::List.range' (j+1) (n-(j+1)):=by
 have:n-j=(n-(j+1))+1:=by lia
 rw[this,range'_succ]
theorem zq7 {x n:Int}(hn:0<n):0<=x % n/\x % n<n:=⟨Int.emod_nonneg _ (by lia),Int.emod_lt_of_pos _ hn⟩
noncomputable def Run (m:MS)(ρ:Ro)(R:Out->Prop):Prop:=∃ o,m ρ=some o/\R o
noncomputable def xc0 (rest:MS)(R:Out->Prop):Out->Prop
 | .nx ρ=>Run rest ρ R| .bk ρ=>R (.bk ρ)| .ct ρ=>R (.ct ρ)| .rt d=>R (.rt d)| .rf d=>R (.rf d)| .rp d es=>R (.rp d es)| .rg d p r=>R (.rg d p r)| .rgf d p r=>R (.rgf d p r)
theorem b9 {x y:MS}{ρ ρ':Ro}{R:Out->Prop}(h:x ρ=some (.nx ρ'))(h2:Run y ρ' R):Run (mseq x y) ρ R:=by
 let⟨o,e,r⟩:=h2
 show⟨o,seqI h e,r⟩
theorem zv0 {x y:MS}{ρ:Ro}{R:Out->Prop}(h:Run x ρ (xc0 y R)):Run (mseq x y) ρ R:=by
 let⟨o,e,r⟩:=h
 cases o with
 |nx ρ'=>show b9 e r
 |bk ρ'=>show⟨_,h7 e,r⟩
 |ct ρ'=>show⟨_,h7 e,r⟩
 |rt d=>show⟨_,h7 e,r⟩
 |rf d=>show⟨_,h7 e,r⟩
 |rp d es=>show⟨_,h7 e,r⟩
 |rg d j i=>show⟨_,h7 e,r⟩
 |rgf d j i=>show⟨_,h7 e,r⟩
theorem xv3 {α:Type}{i:ML}{g:Tg}{body:MS}{ρ:Ro}{f:α->D}(ds:List α)(hi:i ρ=some (ds.map f))(I:List α->Ro->Prop)(Q:Out->Prop)(j:I ds ρ)
  (hs:∀ d ds ρ,I (d::ds) ρ->∃ ρ1,tgD g (f d) ρ=some ρ1/\Run body ρ1 (xw4 I Q ds)) (hd:∀ ρ,I [] ρ->Q (.nx ρ)):Run (mfor i g body) ρ Q:=by
 let⟨o,e,q⟩:=A6 (g:=g) (body:=body) I Q (fun d ds ρ h=>by let⟨ρ1,a,o,b,c⟩:=hs d ds ρ h;show⟨ρ1,o,a,b,c⟩) hd ds ρ j
 show⟨o,by delta mfor;rw[hi];show e,q⟩
theorem zv1 {N:ML}{g:Tg}{body:MS}{ρ:Ro}{f:Nat->D}(n:Nat)(hi:N ρ=some ((List.range n).map f))(I:Nat->Ro->Prop)(Q:Out->Prop)(U:I 0 ρ)
  (hs:∀ j ρ,j<n->I j ρ->∃ ρ1,tgD g (f j) ρ=some ρ1/\Run body ρ1 (xw4 (fun(_:List Unit) ρ=>I (j+1) ρ) Q [])) (hd:∀ ρ,I n ρ->Q (.nx ρ)):Run (mfor N g body) ρ Q:=by
 show xv3 (List.range n) hi (I:=fun ks ρ=>∃ j,j<=n/\ks=List.range' j (n-j)/\I j ρ) (Q:=Q) ⟨0,by lia,by rw[range_eq_range'];rfl,U⟩ ?_ ?_
 .rintro d ds ρ ⟨j,hj,e,h⟩
  have G:j<n:=by
   rcases Nat.lt_or_ge j n with z|z
   .exact z
   .rw[show n-j=0 by lia]at e;ext e
  rw[zy5 j n G]at e
  let⟨e1,e2⟩:=List.cons.inj e
  subst e1
  let⟨ρ1,Z,o,Y,i⟩:=hs d ρ G h
  show⟨ρ1,Z,o,Y,?_⟩
  cases o with
  |nx r=>show⟨d+1,by lia,e2,i⟩
  |ct r=>show⟨d+1,by lia,e2,i⟩
  |bk r=>show i
  |rt r=>show i
  |rf r=>show i
  |rp r r2=>show i
  |rg r r2 O=>show i
  |rgf r r2 O=>show i
 .rintro ρ ⟨j,hj,e,h⟩
  have:n-j=0:=by
   rcases Nat.eq_zero_or_pos (n-j)with z|z
   .exact z
   .rw[zy5 j n (by lia)]at e;ext e
  have:j=n:=by lia
  subst this
  show hd ρ h
theorem V4 {i:Nat}{m:MS}{ρ:Ro}{ds:List D}{R:Out->Prop}(h:ρ[i]? =some (some (.own ds)))(h2:Run m (ρ.set i (some (.sh (.lst ds)))) R):Run (d5 i m) ρ R:=by
 let⟨o,e,r⟩:=h2
 show⟨o,by delta d5;rw[h];show e,r⟩
theorem xg6 {x:Int}(h:0<=x):∃ n:Nat,x=n:=⟨x.toNat,by lia⟩
theorem xr4 {x y:ME}{ρ:Ro}{a b:Bool}(h1:x ρ=some (.bl a))(h2:y ρ=some (.bl b)):mand x y ρ=some (.bl (a&&b)):=by
 delta mand;rw[h1];ext a <;> simp[h2]
theorem M7 (lo:Int)(n:Nat):g9 lo n=(List.range n).map fun(i:Nat)=>D.int (lo+(i:Int)):=rfl
theorem N1 (n:Nat):g9 0 n=((List.range n).map fun(i:Nat)=>(i:Int)).map .int:=by
 rw[M7,map_map]
 apply map_congr_left
 intro i _
 simp
theorem Y4 {j:Int}(h1:-(2^62)<=j)(h2:j<2^62):okR j=true:=by delta okR;simp only[h1,h2,decide_true,Bool.and_self]
theorem P7 {j:Int}(h:okR j=true):rng1 [.int j]=some (g9 0 j.toNat):=by
 delta rng1
 simp only[h,if_true]
theorem zk8 {i j:Int}(h:okR i=true)(h2:okR j=true):rng2 [.int i,.int j]=some (g9 i (j-i).toNat):=by
 delta rng2
 simp only[h,h2,Bool.and_self,if_true]
theorem A8 (i j:Int)(h:0<j)(h2:j<1073741824):zx3 i j=true:=by delta zx3;simp only[h,h2,decide_true,Bool.and_self]
theorem N9:∀(η:List Int)(k:Nat),X5 k (η.map .int)=(List.range η.length).map fun(i:Nat)=>D.tup [.int ((k+i:Nat):Int),.int (η.getD i 0)]
 |[],k=>rfl
 |x::η,k=>by
  rw[map_cons,X5,N9 η (k+1),length_cons,range_succ_eq_map,map_cons,map_map]
  congr 1
  apply map_congr_left
  intro i _
  simp only[Function.comp,Nat.succ_eq_add_one,getD_cons_succ]
  rw[show k+1+i=k+(i+1)by lia]
theorem xq7 (ds:List D):eqFD false (.lst ds) (.lst [])=some (.bl ds.isEmpty):=by
 unfold eqFD eqF
 cases ds with
 |nil=>rfl
 |cons d ds=>rfl
theorem xq6 (ds:List D):eqFD true (.lst ds) (.lst [])=some (.bl (!ds.isEmpty)):=by
 unfold eqFD eqF
 cases ds with
 |nil=>rfl
 |cons d ds=>rfl
theorem yz2 {α:Type}(xs:List α)(lo hi:Option Int):(cutI xs lo hi).length<=xs.length:=by
 delta cutI;rw[length_take,length_drop];lia
theorem xf8 {n:Nat}{k:Int}(i:0<=k)(h1:k<n):ixN n k=some k.toNat:=by delta ixN;rw[if_pos i,if_pos h1]
theorem ze2 (n:Nat):∀ xs:List Int,zipE (eqF (n+1)) (xs.map .int) (xs.map .int)=some true
 |[]=>rfl
 |x::xs=>by
  rw[map_cons,zipE,ze2 n xs]
  show (some (x==x)).bind _=_
  rw[beq_self_eq_true];rfl
theorem xd2 (n:Nat)(xs:List Int):eqF (n+2) (.lst (xs.map .int)) (.lst (xs.map .int))=some true:=by
 show (if _=_ then zipE (eqF (n+1)) (xs.map .int) (xs.map .int)else some false)=_
 rw[if_pos rfl,ze2]
theorem zd2 {n:Nat}{m:MS}{ds:List D}{d:D}(h:Run m (u0 n ds) (fun o=>o= .rt d)):runB n m ds=some (.sh d):=by
 let⟨o,e,rfl⟩:=h
 show T8 e
theorem E4 {f:MF}{m:ML}{ρ:Ro}{ds es:List D}(h:m ρ=some ds)(h2:f ds=some (.fr es)):n4 f m ρ=some (.lst es):=by
 delta n4;rw[h];show (match f ds with |some (.sh d)=>some d|some (.fr es)=>some (D.lst es)|some (.pr d es)=>some (.tup [d,.lst es])|none=>none)=_;rw[h2]
theorem g6 {f:MF}{m:ML}{ρ:Ro}{ds:List D}{d:D}(h:m ρ=some ds)(h2:f ds=some (.sh d)):n4 f m ρ=some d:=by
 delta n4;rw[h];show (match f ds with |some (.sh d)=>some d|some (.fr es)=>some (D.lst es)|some (.pr d es)=>some (.tup [d,.lst es])|none=>none)=_;rw[h2]
theorem z7 {x:ME}{r:ML}{ρ:Ro}{d:D}{ds:List D}(h:x ρ=some d)(h2:r ρ=some ds):z5 x r ρ=some (d::ds):=by
 delta z5;rw[h,h2];rfl
theorem y0 {ρ:Ro}:anil ρ=some []:=rfl
theorem zm3 (η:List Int)(i:Nat)(h:i<η.length):atI (η.map D.int) (i:Int)=some (.int (η.getD i 0)):=by
 have:=zt7 D.int η (i:Int) (by lia) (by lia) 0
 rw[Int.toNat_natCast]at this
 show this
theorem zb1 {m:ML}{ρ:Ro}{x:Int}{r:List Int}(h:m ρ=some ((x::r).map .int)):zq9 m ρ=some (.int (maxI (x::r))):=by
 delta zq9;rw[h];simp only[N8]
theorem xm7 {x y:ME}{ρ:Ro}{i j:Int}(h1:x ρ=some (.int i))(h2:y ρ=some (.int j)):v3 (m2 ltD x y) ρ=some (decide (i<j)):=by
 delta v3 m2;rw[h1,h2];rfl
theorem Z3 {α:Type}{g:Tg}{c:MB}{i:ME}{f:α->D}{p:α->Bool}{G:α->D}(I:List α->Ro->Prop)
  (hs:∀ d ds ρ,I (d::ds) ρ->∃ ρ1,tgD g (f d) ρ=some ρ1/\c ρ1=some (p d)/\(p d=true->i ρ1=some (G d))/\I ds ρ1):
  ∀(ds:List α)(ρ:Ro)(acc:List D),I ds ρ->acc.length+ds.length<=sizeLine->Y1 g c i (ds.map f) ρ acc=some (acc++(ds.filter p).map G)
 |[],ρ,acc,h,hl=>by simp[Y1]
 |d::ds,ρ,acc,h,hl=>by
  let⟨ρ1,h1,h2,z,j⟩:=hs d ds ρ h
  rw[length_cons]at hl
  rw[map_cons]
  unfold Y1
  rw[h1]
  simp only[h2]
  cases hp:p d with
  |false=>
   simp only
   rw[Z3 I hs ds ρ1 acc j (by lia),filter_cons,hp]
   rfl
  |true=>
   simp only[z hp]
   rw[if_pos (by lia),Z3 I hs ds ρ1 _ j (by simp;lia),filter_cons,hp]
   simp
theorem xx3 {x y:MB}{ρ:Ro}{a b:Bool}(h1:x ρ=some a)(h2:y ρ=some b):cor x y ρ=some (a || b):=by
 delta cor;rw[h1];ext a <;> simp[h2]
theorem Y8 {i:Nat}{x:ME}{ρ:Ro}{d:D}(h:x ρ=some d):mset i x ρ=some (.nx (ρ.set i (some (.sh d)))):=by delta mset;rw[h];rfl
theorem t7 {m:ML}{ρ:Ro}{ds:List D}(h:m ρ=some ds):mlst m ρ=some (.lst ds):=by delta mlst;rw[h];rfl
theorem v7 {m:ML}{ρ:Ro}{ds:List D}(h:m ρ=some ds)(i:ds.length<=sizeLine):w8 m ρ=some ds:=by
 delta w8;rw[h];show (if ds.length<=sizeLine then some ds else none)=_;rw[if_pos i]
theorem h8 {m:ML}{i:ME}{ρ:Ro}{ds:List D}{k:Int}{d:D}(h1:m ρ=some ds)(h2:i ρ=some (.int k))(j:atI ds k=some d):mix m i ρ=some d:=by
 delta mix;rw[h1,h2];show j
theorem yb5 {m:ML}{ρ:Ro}{ds:List D}(h:m ρ=some ds)(i:Bool):meqB i m (w8 anil) ρ=some (.bl (if i then !ds.isEmpty else ds.isEmpty)):=by
 have j:0<=sizeLine:=Nat.zero_le _
 have e:w8 anil ρ=some []:=by simp_arith [j,if_true]
 delta meqB
 rw[h,e]
 ext i
 .simp only[Option.bind_some,xq7];rfl
 .simp only[Option.bind_some,xq6];rfl
theorem j8 {m:ME}{ρ:Ro}{ds:List D}(h:m ρ=some (.lst ds)):u6 m ρ=some ds:=by delta u6;rw[h]
theorem yo2 {x y:ML}{ρ:Ro}{ds es:List D}(h1:x ρ=some ds)(h2:y ρ=some es)(i:ds.length+es.length<=sizeLine):mcat x y ρ=some (ds++es):=by
 delta mcat;rw[h1,h2];show (if ds.length+es.length<=sizeLine then some (ds++es)else none)=_;rw[if_pos i]
theorem C6 {m:ML}{ρ:Ro}{ds:List D}(h:m ρ=some ds)(i:ds.length<=sizeLine):mtup m ρ=some (.tup ds):=by
 delta mtup;rw[v7 h i];rfl
theorem L6 {x:ME}{ρ:Ro}{d:D}(h:x ρ=some d):mret x ρ=some (.rt d):=by delta mret;rw[h];rfl
theorem wy6:kitB "list" "list"=some true:=by decide +kernel
theorem wy7:kitB "int" "int"=some true:=by decide +kernel
theorem wy8:kitB "int" "bool"=some false:=by decide +kernel
theorem zg4 {α:Type}(xs:List α):xs.filter (fun _=>false)=[]:=by
 induction xs with
 |nil=>rfl
 |cons x xs i=>rw[filter_cons];show i
section
open PySem L2
theorem U4 {c:MB}{x y:MS}{ρ:Ro}{b:Bool}(h:c ρ=some b):mif c x y ρ=(if b then x else y) ρ:=by delta mif;rw[h];ext b <;> rfl
theorem zb4 {x:ME}{ρ:Ro}{d:D}(h:x ρ=some d):zi9 x ρ=some (.nx ρ):=by delta zi9;rw[h];rfl
theorem xa0 {x:ME}{ρ:Ro}{i k:Int}(h:x ρ=some (.int i)):v3 (m2 eqSD x (mc (.int k))) ρ=some (i==k):=by delta v3 m2 mc;rw[h];rfl
end
section
open PySem L2
noncomputable def lx:List Nat->List Nat->Bool
 |[],[]=>false
 |[],_::_=>true
 |_::_,[]=>false
 |a::l,b::m=>decide (a<b) || (a==b&&lx l m)
noncomputable def k8 (l m:List Nat):Bool:=decide (m.length<l.length) || (l.length==m.length&&lx l m)
theorem yn1:∀ l,lx l l=false
 |[]=>rfl
 |a::l=>by unfold lx;simp[yn1 l]
theorem zb9:∀{a b c:List Nat},lx a b=true->lx b c=true->lx a c=true
 |[],[],_,h,_=>by ext h
 |[],_::_,[],_,h=>by ext h
 |[],_::_,_::_,_,_=>rfl
 |_::_,[],_,h,_=>by ext h
 |_::_,_::_,[],_,h=>by ext h
 |a::l,b::m,c::k,h1,h2=>by
  unfold lx at*
  simp only[Bool.or_eq_true,Bool.and_eq_true,decide_eq_true_eq,beq_iff_eq]at*
  rcases h1 with h1|⟨rfl,h1⟩ <;> rcases h2 with h2|⟨rfl,h2⟩
  .exact .inl (by lia)
  .exact .inl h1
  .exact .inl h2
  .exact .inr ⟨rfl,zb9 h1 h2⟩
theorem xy3:∀(a b:List Nat),a=b\/lx a b=true\/lx b a=true
 |[],[]=>.inl rfl
 |[],_::_=>.inr (.inl rfl)
 |_::_,[]=>.inr (.inr rfl)
 |a::l,b::m=>by
  unfold lx
  simp only[Bool.or_eq_true,Bool.and_eq_true,decide_eq_true_eq,beq_iff_eq]
  rcases Nat.lt_trichotomy a b with h|h|h
  .exact .inr (.inl (.inl h))
  .subst h
   rcases xy3 l m with h|h|h
   .exact .inl (by rw[h])
   .exact .inr (.inl (.inr ⟨rfl,h⟩))
   .exact .inr (.inr (.inr ⟨rfl,h⟩))
  .exact .inr (.inr (.inl h))
theorem Z4 (l m:List Nat):k8 l m=true↔m.length<l.length\/(l.length=m.length/\lx l m=true):=by
 delta k8
 simp only[Bool.or_eq_true,Bool.and_eq_true,decide_eq_true_eq,beq_iff_eq]
theorem S3 {a b c:List Nat}(h1:k8 a b=true)(h2:k8 b c=true):k8 a c=true:=by
 rw[Z4]at*
 rcases h1 with h1|⟨h1,j⟩ <;> rcases h2 with h2|⟨h2,i⟩
 .exact .inl (by lia)
 .exact .inl (by lia)
 .exact .inl (by lia)
 .exact .inr ⟨by lia,zb9 j i⟩
theorem zz3 (a b:List Nat):a=b\/k8 a b=true\/k8 b a=true:=by
 rw[Z4,Z4]
 rcases Nat.lt_trichotomy a.length b.length with h|h|h
 .exact .inr (.inr (.inl h))
 .rcases xy3 a b with z|z|z
  .exact .inl z
  .exact .inr (.inl (.inr ⟨h,z⟩))
  .exact .inr (.inr (.inr ⟨h.symm,z⟩))
 .exact .inr (.inl (.inl h))
theorem Q3 (a:List Nat):k8 a a=false:=by
 delta k8;simp[yn1]
theorem yw8 (p:Nat)(a b:List Nat):k8 (p::a) (p::b)=k8 a b:=by
 delta k8
 simp[lx]
noncomputable def Best (P:List Nat->Prop)(l:List Nat):Prop:=P l/\∀ m,P m->k8 m l=false
theorem Best.unique {P:List Nat->Prop}{l m:List Nat}(a:Best P l)(b:Best P m):l=m:=by
 rcases zz3 l m with h|h|h
 .exact h
 .have:=b.2 l a.1;rw[h]at this;ext this
 .have:=a.2 m b.1;rw[h]at this;ext this
theorem Best.iff {P Q:List Nat->Prop}{l:List Nat}(a:Best P l)(h:∀ m,P m↔Q m):Best Q l:=⟨(h l).mp a.1,fun m hm=>a.2 m ((h m).mpr hm)⟩
theorem Best.len {P:List Nat->Prop}{l:List Nat}(a:Best P l)(m:List Nat)(h:P m):m.length<=l.length:=by
 have:=a.2 m h
 rcases Nat.lt_or_ge l.length m.length with z|z
 .rw[(Z4 m l).mpr (.inl z)]at this;ext this
 .exact z
noncomputable def far (s:Int)(d:Bool)(a b:Int):Prop:=if d then s<=b-a else s<=a-b
noncomputable instance (s:Int) (d:Bool) (a b:Int):Decidable (far s d a b):=by unfold far;exact inferInstance
noncomputable def Hd (p:Nat)(l:List Nat):Prop:=∃ m,l=p::m
variable {x:Nat->Int}{n:Nat}{s:Int}
end
section
open PySem L2
noncomputable def Sd (x:Nat->Int)(n:Nat)(s:Int):List Nat->Nat->Bool->Prop
 |[],_,_=>False
 |[p],_,_=>p<n
 |p::q::l,t,d=>p<q/\far s d (x p) (x q)/\(Sd x n s (q::l) t d\/∃ u,t=u+1/\Sd x n s (q::l) u (!d))
variable {x:Nat->Int}{n:Nat}{s:Int}
theorem Sd.lt:∀{l:List Nat}{p t:Nat}{d:Bool},Sd x n s (p::l) t d->p<n
 |[],_,_,_,h=>h
 |q::l,p,t,d,h=>by
  rcases h.2.2 with z|⟨u,_,z⟩
  .exact Nat.lt_trans h.1 z.lt
  .exact Nat.lt_trans h.1 z.lt
theorem Sd.mono:∀{l:List Nat}{t u:Nat}{d:Bool},Sd x n s l t d->t<=u->Sd x n s l u d
 |[],_,_,_,h,_=>h
 |[p],_,_,_,h,_=>h
 |p::q::l,t,u,d,h,hu=>by
  show⟨h.1,h.2.1,?_⟩
  rcases h.2.2 with z|⟨v,e,z⟩
  .exact .inl (z.mono hu)
  .exact .inr ⟨u-1,by lia,z.mono (by lia)⟩
theorem Sd.len:∀{l:List Nat}{p t:Nat}{d:Bool},Sd x n s (p::l) t d->l.length+p<n
 |[],p,_,_,h=>by have h:p<n:=h;simpa using h
 |q::l,p,t,d,h=>by
  have h1:=h.1
  have:l.length+q<n:=by
   rcases h.2.2 with z|⟨u,_,z⟩
   .exact z.len
   .exact z.len
  simp;lia
theorem Sd.enough:∀{l:List Nat}{t:Nat}{d:Bool},Sd x n s l t d->Sd x n s l l.length d
 |[],_,_,h=>h
 |[p],_,_,h=>h
 |p::q::l,t,d,h=>by
  show⟨h.1,h.2.1,?_⟩
  rcases h.2.2 with z|⟨v,e,z⟩
  .exact .inl (z.enough.mono (by simp))
  .exact .inr ⟨(q::l).length,rfl,z.enough⟩
noncomputable def FS (x:Nat->Int)(n:Nat)(s:Int)(t:Nat)(d:Bool)(p:Nat)(l:List Nat):Prop:=Sd x n s l t d/\Hd p l
noncomputable def FR (x:Nat->Int)(n:Nat)(s:Int)(t:Nat)(d:Bool)(p:Nat)(l:List Nat):Prop:=(Sd x n s l t d\/∃ u,t=u+1/\Sd x n s l u (!d))/\Hd p l
theorem zm5 (l:List Nat)(h:l≠[]):k8 [] l=false:=by
 cases l with
 |nil=>show absurd rfl h
 |cons a l=>
  cases e:k8 [] (a::l)with
  |false=>rfl
  |true=>
   rw[Z4]at e
   simp only[length_nil,length_cons]at e
   lia
theorem ahead_false {a b:List Nat}:k8 a b=false↔a=b\/k8 b a=true:=by
 constructor
 .intro h
  rcases zz3 a b with z|z|z
  .exact .inl z
  .rw[h]at z;ext z
  .exact .inr z
 .rintro(z|z)
  .rw[z];show Q3 _
  .cases e:k8 a b with
   |false=>rfl
   |true=>have:=S3 e z;rw[Q3]at this;ext this
theorem P0 {a b c:List Nat}(h1:k8 a b=false)(h2:k8 b c=false):k8 a c=false:=by
 rw[ahead_false]at*
 rcases h1 with rfl|h1
 .exact h2
 .rcases h2 with rfl|h2
  .exact .inr h1
  .exact .inr (S3 h2 h1)
theorem ya2 {P Q R:List Nat->Prop}{a b c:List Nat}(ha:Best P a)(j:Best Q b)(G:c=if k8 b a=true then b else a)(i:∀ l,R l↔P l\/Q l):Best R c:=by
 subst G
 cases h:k8 b a with
 |true=>
  simp only[if_true]
  show⟨(i _).mpr (.inr j.1),fun m hm=>by
   rcases (i m).mp hm with z|z
   .exact P0 (ha.2 m z) (ahead_false.mpr (.inr h))
   .exact j.2 m z⟩
 |false=>
  simp only[Bool.false_eq_true,if_false]
  show⟨(i _).mpr (.inl ha.1),fun m hm=>by
   rcases (i m).mp hm with z|z
   .exact ha.2 m z
   .exact P0 (j.2 m z) h⟩
noncomputable def fl:List (List Nat)->List Nat->List Nat
 |[],b=>b
 |m::ls,b=>if b.length<m.length then fl ls m else fl ls b
theorem zg2:∀(i:List (List Nat))(b:List Nat),(b::i).Pairwise (fun a c=>lx a c=true)->fl i b∈b::i/\∀ m∈b::i,k8 m (fl i b)=false
 |[],b,_=>⟨by simp[fl],by simp[fl,Q3]⟩
 |m::i,b,h=>by
  have hp:=List.pairwise_cons.mp h
  unfold fl
  by_cases G:b.length<m.length
  .rw[if_pos G]
   let⟨h1,h2⟩:=zg2 i m hp.2
   show⟨mem_cons_of_mem _ h1,fun k j=>?_⟩
   rcases List.mem_cons.mp j with rfl|j
   .exact P0 (ahead_false.mpr (.inr ((Z4 m k).mpr (.inl G)))) (h2 m (by simp))
   .exact h2 k j
  .rw[if_neg G]
   have hs:(b::i).Pairwise (fun a c=>lx a c=true):=List.pairwise_cons.mpr ⟨fun c I=>hp.1 c (by simp[I]),(List.pairwise_cons.mp hp.2).2⟩
   let⟨h1,h2⟩:=zg2 i b hs
   show⟨?_,fun k j=>?_⟩
   .rcases List.mem_cons.mp h1 with z|z
    .rw[z];simp
    .simp[z]
   .rcases List.mem_cons.mp j with rfl|j
    .exact h2 k (by simp)
    .rcases List.mem_cons.mp j with rfl|j
     .refine P0 (b:=b) ?_ (h2 b (by simp))
      show ahead_false.mpr (.inr ((Z4 b k).mpr ?_))
      rcases Nat.lt_or_ge k.length b.length with z|z
      .exact .inl z
      .exact .inr ⟨by lia,hp.1 k (by simp)⟩
     .exact h2 k (by simp[j])
noncomputable def flD:List (List Nat)->List Nat
 |[]=>[]
 |m::ls=>fl ls m
theorem yc2 {a b:Nat}{l m:List Nat}(h:a<b):lx (a::l) (b::m)=true:=by
 unfold lx;simp[h]
theorem yi0 {t:Nat}{d:Bool}{p:Nat}{qs:List Nat}{R:Nat->List Nat}(hp:p<n)(N:∀ q,q∈qs↔p<q/\q<n/\far s d (x p) (x q))(hr:qs.Pairwise (·<·))(Y:∀ q∈qs,Best (FR x n s t d q) (R q)):
  Best (FS x n s t d p) (p::flD (qs.map R)):=by
 have hd:∀ q∈qs,∃ m,R q=q::m:=fun q h=>(Y q h).1.2
 cases qs with
 |nil=>
  show⟨⟨hp,[],rfl⟩,?_⟩
  rintro m ⟨h1,k,rfl⟩
  cases k with
  |nil=>show Q3 _
  |cons q k=>
   exfalso
   have j:q<n:=by
    rcases h1.2.2 with z|⟨u,_,z⟩
    .exact z.lt
    .exact z.lt
   have:=(N q).mpr ⟨h1.1,j,h1.2.1⟩
   ext this
 |cons G qs=>
  have pw:((G::qs).map R).Pairwise (fun a c=>lx a c=true):=by
   rw[pairwise_map]
   show hr.imp_of_mem fun{a b} ha O U=>?_
   let⟨m1,e1⟩:=hd a ha
   let⟨m2,e2⟩:=hd b O
   rw[e1,e2]
   show yc2 U
  let⟨h1,h2⟩:=zg2 (qs.map R) (R G) (by simpa using pw)
  have h1:flD ((G::qs).map R)∈(G::qs).map R:=by simpa[flD]using h1
  have h2:∀ m∈(G::qs).map R,k8 m (flD ((G::qs).map R))=false:=by simpa[flD]using h2
  let⟨q,i,e⟩:=List.mem_map.mp h1
  have O:=Y q i
  let⟨m,em⟩:=hd q i
  let⟨a1,a2,a3⟩:=(N q).mp i
  rw[<-e]
  rw[<-e]at h2
  show⟨⟨?_,_,rfl⟩,?_⟩
  .rw[em]
   show⟨a1,a3,?_⟩
   rw[<-em]
   show O.1.1
  .rintro k ⟨g1,Z,rfl⟩
   cases Z with
   |nil=>
    show ahead_false.mpr (.inr ((Z4 _ _).mpr (.inl ?_)))
    rw[em];simp
   |cons r Z=>
    rw[yw8]
    have j:r<n:=by
     rcases g1.2.2 with z|⟨u,_,z⟩
     .exact z.lt
     .exact z.lt
    have I:=(N r).mpr ⟨g1.1,j,g1.2.1⟩
    show P0 ((Y r I).2 (r::Z) ⟨g1.2.2,_,rfl⟩) (h2 _ (List.mem_map.mpr ⟨r,I,rfl⟩))
noncomputable def Tn (x:Nat->Int)(n:Nat)(s:Int)(t:Nat)(l:List Nat):Prop:=l=[]\/∃ d,Sd x n s l t d
theorem Tn.mono {t u:Nat}{l:List Nat}(h:Tn x n s t l)(i:t<=u):Tn x n s u l:=h.imp id fun⟨d,z⟩=>⟨d,z.mono i⟩
theorem Tn.all {t:Nat}{l:List Nat}(h:Tn x n s t l):Tn x n s n l:=by
 rcases h with h|⟨d,h⟩
 .exact .inl h
 .refine .inr ⟨d,h.enough.mono ?_⟩
  cases l with
  |nil=>simp
  |cons p l=>have:=h.len;simp;lia
theorem yw6 {t:Nat}{l:List Nat}{z:List (List Nat)}(hm:l∈z)(i:∀ m∈z,k8 m l=false)(hw:∀ m∈z,Tn x n s t m)(j:∀ d p,p<n->∃ m∈z,Best (FS x n s t d p) m)(hn:l≠[]):Best (Tn x n s t) l:=by
 show⟨hw l hm,fun m h=>?_⟩
 rcases h with rfl|⟨d,h⟩
 .exact zm5 l hn
 .cases m with
  |nil=>show h.elim
  |cons p m=>
   let⟨k,G,I⟩:=j d p h.lt
   show P0 (I.2 _ ⟨h,_,rfl⟩) (i k G)
theorem zf0 {t:Nat}(hn:n=0):Best (Tn x n s t) []:=by
 show⟨.inl rfl,fun m h=>?_⟩
 rcases h with rfl|⟨d,h⟩
 .rfl
 .cases m with
  |nil=>show h.elim
  |cons p m=>have:=h.lt;lia
end
section
open PySem L2
noncomputable def dN (p:Nat):D:=.int (p:Int)
noncomputable def L (l:List Nat):D:=.lst (l.map dN)
noncomputable def Ky (l:List Nat):D:=.tup [.int (-(l.length:Int)),L l]
theorem xx0 (k:Nat)(a b:Nat):eqF (k+1) (dN a) (dN b)=some (a==b):=by
 show some ((a:Int)==(b:Int))=_
 congr 1
 rw[Bool.eq_iff_iff,beq_iff_eq,beq_iff_eq]
 lia
theorem yv0 (k:Nat):∀(l m:List Nat),l.length=m.length->zipE (eqF (k+1)) (l.map dN) (m.map dN)=some (l==m)
 |[],[],_=>rfl
 |[],_::_,h=>by ext h
 |_::_,[],h=>by ext h
 |a::l,b::m,h=>by
  rw[map_cons,map_cons,zipE,xx0,yv0 k l m (by simpa using h)]
  rfl
theorem yn4 (k:Nat):∀(l m:List Nat),lexF (eqF (k+1)) (ltF (k+1)) (l.map dN) (m.map dN)=some (lx l m)
 |[],[]=>rfl
 |[],_::_=>rfl
 |_::_,[]=>rfl
 |a::l,b::m=>by
  rw[map_cons,map_cons,lexF,xx0]
  unfold lx
  by_cases h:a=b
  .subst h
   simp only[beq_self_eq_true,Nat.lt_irrefl,decide_false,Bool.true_and,Bool.false_or]
   show yn4 k l m
  .have e:(a==b)=false:=by simpa using h
   rw[e]
   simp only[Bool.false_and,Bool.or_false]
   show some (decide ((a:Int)<(b:Int)))=_
   congr 1
   apply decide_eq_decide.mpr
   lia
theorem xy4 (l m:List Nat):ltF 8 (Ky l) (Ky m)=some (k8 l m):=by
 show lexF (eqF 7) (ltF 7) [.int (-(l.length:Int)),L l] [.int (-(m.length:Int)),L m]=_
 rw[lexF,show eqF 7 (.int (-(l.length:Int))) (.int (-(m.length:Int)))=some (-(l.length:Int)== -(m.length:Int))from rfl]
 delta k8
 by_cases h:l.length=m.length
 .rw[h]
  simp only[beq_self_eq_true,Nat.lt_irrefl,decide_false,Bool.true_and,Bool.false_or]
  have e:eqF 7 (L l) (L m)=some (l==m):=by
   show (if (l.map dN).length=(m.map dN).length then zipE (eqF 6) (l.map dN) (m.map dN)else some false)=_
   rw[if_pos (by simpa using h),yv0 5 l m h]
  rw[lexF,e]
  by_cases i:l=m
  .subst i
   simp only[beq_self_eq_true]
   rw[yn1];rfl
  .have e2:(l==m)=false:=by simpa using i
   rw[e2]
   show yn4 5 l m
 .have e:(-(l.length:Int)== -(m.length:Int))=false:=by
   rw[beq_eq_false_iff_ne];lia
  have e2:(l.length==m.length)=false:=by simpa using h
  rw[e,e2]
  simp only[Bool.false_and,Bool.or_false]
  show some (decide (-(l.length:Int) < -(m.length:Int)))=_
  congr 1
  apply decide_eq_decide.mpr
  lia
theorem zu3 {mk:D->Option D}(G:∀ l,mk (L l)=some (Ky l)):∀(j:List (List Nat))(b:List Nat),∃ r,minF mk (j.map L) (L b) (Ky b)=some (L r)/\r∈b::j/\∀ m∈b::j,k8 m r=false
 |[],b=>⟨b,rfl,by simp,by simp[Q3]⟩
 |m::j,b=>by
  rw[map_cons]
  unfold minF
  rw[G m]
  simp only[xy4 m b]
  cases h:k8 m b with
  |true=>
   let⟨r,e,h1,h2⟩:=zu3 G j m
   show⟨r,e,mem_cons_of_mem _ h1,fun k i=>?_⟩
   rcases List.mem_cons.mp i with rfl|i
   .cases z:k8 k r with
    |false=>rfl
    |true=>have:=h2 m (by simp);rw[S3 h z]at this;ext this
   .exact h2 k i
  |false=>
   let⟨r,e,h1,h2⟩:=zu3 G j b
   show⟨r,e,?_,fun k i=>?_⟩
   .rcases List.mem_cons.mp h1 with h1|h1
    .simp[h1]
    .simp[h1]
   .have hb:=h2 b (by simp)
    rcases List.mem_cons.mp i with rfl|i
    .exact hb
    .rcases List.mem_cons.mp i with rfl|i
     .cases z:k8 k r with
      |false=>rfl
      |true=>
       rcases zz3 k b with w|w|w
       .rw[w,hb]at z;ext z
       .rw[h]at w;ext w
       .rw[S3 w z]at hb;ext hb
     .exact h2 k (mem_cons_of_mem _ i)
noncomputable abbrev xr (η:List Int):Nat->Int:=fun i=>η.getD i 0
theorem zs4 {x y:ME}{ρ:Ro}{i j:Int}(h1:x ρ=some (.int i))(h2:y ρ=some (.int j)):v3 (m2 geD x y) ρ=some (decide (j<=i)):=by
 delta v3 m2;rw[h1,h2];rfl
theorem W9 {m:ML}{ρ:Ro}{ds:List D}(h:m ρ=some ds):mlen m ρ=some (.int ds.length):=by delta mlen;rw[h];rfl
theorem at_L (U:List (List Nat))(p:Nat)(h:p<U.length):atI (U.map L) (p:Int)=some (L (U.getD p [])):=by
 have:=zt7 L U (p:Int) (by lia) (by lia) []
 rw[Int.toNat_natCast]at this
 show this
theorem yn8 (n p:Nat)(h:p<n):ixN n (p:Int)=some p:=by
 delta ixN
 rw[if_pos (by lia),if_pos (by lia),Int.toNat_natCast]
theorem S0 (U:List (List Nat))(p q:Nat)(l:List Nat)(h:p≠q):(U.set p l).getD q []=U.getD q []:=by
 rw[getD_eq_getElem?_getD,getD_eq_getElem?_getD,getElem?_set_ne h]
theorem a9 (U:List (List Nat))(p:Nat)(l:List Nat)(h:p<U.length):(U.set p l).getD p []=l:=by
 rw[getD_eq_getElem?_getD,getElem?_set_self h];rfl
theorem xf5 (l:List Nat):L9 [L l]=some (.sh (Ky l)):=by
 delta L9 zm2
 have i2:0+1+1<=sizeLine:=w5 (by decide)
 show T8 ?_
 delta L
 simp_arith [i2,if_true,length_map]
 rfl
theorem zb5 {U:List (List Nat)}{m:List Nat}(h:m∈U):∃ q,q<U.length/\m=U.getD q []:=by
 let⟨q,i,e⟩:=getElem_of_mem h
 show⟨q,i,by rw[getD_eq_getElem?_getD,getElem?_eq_getElem i,<-e];rfl⟩
theorem za8 {U:List (List Nat)}{q:Nat}(h:q<U.length):U.getD q []∈U:=by
 rw[getD_eq_getElem?_getD,getElem?_eq_getElem h];show getElem_mem h
theorem P2 (step:Int)(h:1<=step):yo8 [.int step]=some (.sh .non):=by
 have:¬ step<1:=by lia
 delta yo8 xo0
 simp_arith [this,decide_false]
theorem k7 {f:D->D->Option D}{x y:ME}{ρ:Ro}{a b:D}(h1:x ρ=some a)(h2:y ρ=some b):m2 f x y ρ=f a b:=by
 delta m2;rw[h1,h2];rfl
theorem E5 {α:Type}(f:Nat->α)(j:Nat):(List.range (j+1)).map f=(List.range j).map f++[f j]:=by
 rw[range_succ,map_append];rfl
noncomputable def abv (η:List Int)(s:Int)(d:Bool)(p:Nat):List Nat:=((List.range (η.length-(p+1))).map fun j=>p+1+j).filter fun q=>decide (far s d (xr η p) (xr η q))
theorem abv_mem {η:List Int}{s:Int}{d:Bool}{p q:Nat}:q∈abv η s d p↔p<q/\q<η.length/\far s d (xr η p) (xr η q):=by
 delta abv
 rw[mem_filter,mem_map,decide_eq_true_eq]
 constructor
 .rintro⟨⟨j,hj,rfl⟩,h⟩
  have:=List.mem_range.mp hj
  show⟨by lia,by lia,h⟩
 .rintro⟨h1,h2,h3⟩
  show⟨⟨q-(p+1),List.mem_range.mpr (by lia),by lia⟩,h3⟩
theorem zz5 (η:List Int)(s:Int)(d:Bool)(p:Nat):(abv η s d p).length<=η.length:=by
 delta abv
 show Nat.le_trans (length_filter_le _ _) ?_
 rw[length_map,length_range];lia
noncomputable def zo7 (η:List Int)(s:Int)(A B:List (List Nat))(o4 o5:Option S):Ro:=[k0a η,k0c s,some (.own (A.map L)),some (.own (B.map L)),o4,o5]
theorem zd3 (η:List Int)(p:Nat)(hr:η.length<=300)(hp:p<η.length):g9 ((p:Int)+1) ((η.length:Int)-((p:Int)+1)).toNat=((List.range (η.length-(p+1))).map fun j=>p+1+j).map dN:=by
 rw[M7,show ((η.length:Int)-((p:Int)+1)).toNat=η.length-(p+1)by lia,map_map]
 apply map_congr_left
 intro i _
 show D.int _=D.int _
 congr 1
theorem yy1 (η:List Int)(s:Int)(d:Bool)(p:Nat)(hr:η.length<=300)(hp:p<η.length)(A B:List (List Nat))(i:MB)
  (O:∀ q:Nat,q<η.length->i [some (.sh (dN q)),k0c s,some (.sh (.int (xr η p))),k0a η]=some (decide (far s d (xr η p) (xr η q)))):
  X0 [none,some 1,some 5,some 0] (t9 rng2 (z5 (m2 addD (mvar 4) (mc (.int 1))) (z5 (mlen (bvar 0)) anil))) (.nm 0) i (mvar 0) (zo7 η s A B (k0b p) (some (.sh (.int (xr η p)))))=some ((abv η s d p).map dN):=by
 have N:okR ((p:Int)+1)=true:=Y4 (by lia) (by lia)
 have I:okR (η.length:Int)=true:=Y4 (by lia) (by lia)
 have e1:t9 rng2 (z5 (m2 addD (mvar 4) (mc (.int 1))) (z5 (mlen (bvar 0)) anil)) (zo7 η s A B (k0b p) (some (.sh (.int (xr η p)))))=some (((List.range (η.length-(p+1))).map fun j=>p+1+j).map dN):=by
  delta zo7
  simp_arith [length_map,zk8 N I,zd3 η p hr hp]
 delta X0
 rw[e1,Option.bind_some]
 show Y1 _ _ _ _ [none,k0c s,some (.sh (.int (xr η p))),k0a η] []=_
 rw[Z3 (f:=dN) (p:=fun q=>decide (far s d (xr η p) (xr η q))) (G:=dN) (fun qs ρ=>(∀ q∈qs,q<η.length)/\∃ o,ρ=[o,k0c s,some (.sh (.int (xr η p))),k0a η])
  (by
   rintro q qs ρ ⟨z,o,rfl⟩
   show⟨_,rfl,O q (z q (by simp)),fun _=>rfl,fun r hr=>z r (by simp[hr]),_,rfl⟩) _ _ [] ⟨fun q z=>by
    let⟨j,U,rfl⟩:=List.mem_map.mp z
    have:=List.mem_range.mp U
    lia,_,rfl⟩ (w5 (by simp;lia)),nil_append]
 rfl
theorem zz9 (η:List Int)(s:Int)(hr:η.length<=300):yo9 [.lst (η.map .int),.int s]=some (.sh (.tup [.lst (((List.range η.length).map (abv η s true)).map L),.lst (((List.range η.length).map (abv η s false)).map L)])):=by
 delta yo9 xo1
 show zd2 ?_
 have a1:=n5
 have G:0<=sizeLine:=Nat.zero_le _
 have i2:2<=sizeLine:=w5 (by decide)
 show b9 (ρ':=[k0a η,k0c s,some (.own []),none,none,none]) (by delta d3;rw[v7 y0 G];rfl) ?_
 show b9 (ρ':=zo7 η s [] [] none none) (by delta d3;rw[v7 y0 G];rfl) ?_
 have U:t9 zg5 (z5 (mvar 0) anil) (zo7 η s [] [] none none)=some ((List.range η.length).map fun(i:Nat)=>D.tup [.int (i:Int),.int (xr η i)]):=by
  delta t9
  rw[z7 (x:=mvar 0) (d:=.lst (η.map .int)) rfl y0,Option.bind_some]
  show some (X5 0 (η.map .int))=_
  rw[N9]
  congr 1
  apply map_congr_left
  intro i _
  rw[Nat.zero_add]
 show zv0 (zv1 η.length (f:=fun(i:Nat)=>D.tup [.int (i:Int),.int (xr η i)]) U
  (I:=fun j ρ=>∃ o4 o5,ρ=zo7 η s ((List.range j).map (abv η s true)) ((List.range j).map (abv η s false)) o4 o5) _ ⟨_,_,rfl⟩ ?_ ?_)
 .rintro j ρ hj ⟨o4,o5,rfl⟩
  show⟨zo7 η s ((List.range j).map (abv η s true)) ((List.range j).map (abv η s false)) (k0b j) (some (.sh (.int (xr η j)))),rfl,?_⟩
  delta yz8
  have N:∀ q:Nat,q<η.length->mix (bvar 3) (mvar 0) [some (.sh (dN q)),k0c s,some (.sh (.int (xr η j))),k0a η]=some (.int (xr η q)):=fun q z=>h8 rfl rfl (zm3 η q z)
  have Z:=yy1 η s true j hr hj ((List.range j).map (abv η s true)) ((List.range j).map (abv η s false)) (v3 (m2 geD (m2 subD (mix (bvar 3) (mvar 0)) (mvar 2)) (mvar 1))) (fun q z=>by
   rw[zs4 ((k7 (N q z) rfl).trans (show subD (.int (xr η q)) (.int (xr η j))=some (.int (xr η q-xr η j))from rfl)) rfl]
   delta far;simp)
  have Y:=yy1 η s false j hr hj ((List.range (j+1)).map (abv η s true)) ((List.range j).map (abv η s false)) (v3 (m2 geD (m2 subD (mvar 2) (mix (bvar 3) (mvar 0))) (mvar 1))) (fun q z=>by
   rw[zs4 ((k7 (show mvar 2 _=some (.int (xr η j))from rfl) (N q z)).trans (show subD (.int (xr η j)) (.int (xr η q))=some (.int (xr η j-xr η q))from rfl)) rfl]
   delta far;simp)
  have app:∀(ρ:Ro)(i:Nat)(M:List (List Nat))(m:ML)(l:List Nat),ρ[i]? =some (some (.own (M.map L)))->m ρ=some (l.map dN)->M.length<sizeLine->mapp i (mlst m) ρ=some (.nx (ρ.set i (some (.own ((M++[l]).map L))))):=by
   intro ρ i M m l h1 h2 O
   delta mapp
   rw[h1,t7 h2]
   show (some (D.lst (l.map dN))).bind (fun d=>if (M.map L).length<sizeLine then some (Out.nx (ρ.set i (some (.own (M.map L++[d])))))else none)=_
   rw[Option.bind_some,if_pos (by rw[length_map];show O),map_append]
   rfl
  show b9 (ρ':=zo7 η s ((List.range (j+1)).map (abv η s true)) ((List.range j).map (abv η s false)) (k0b j) (some (.sh (.int (xr η j))))) ?_ ?_
  .rw[app _ 2 _ _ _ rfl Z (by simp;lia),<-E5]
   rfl
  .refine⟨_,app _ 3 _ _ _ rfl Y (by simp;lia),?_⟩
   rw[<-E5]
   show⟨_,_,rfl⟩
 .rintro ρ ⟨o4,o5,rfl⟩
  delta yz7
  show V4 (ds:=((List.range η.length).map (abv η s false)).map L) rfl (V4 (ds:=((List.range η.length).map (abv η s true)).map L) rfl ⟨_,L6 (C6 (z7 (d:=.lst (((List.range η.length).map (abv η s true)).map L)) rfl (z7 (d:=.lst (((List.range η.length).map (abv η s false)).map L)) rfl y0)) i2),rfl⟩)
end
section
open PySem L2
theorem yt0 {j:Int}(h:okR j=true):rngD [.int j]=some (K2 j.toNat):=by
 delta rngD
 simp only[h,if_true]
theorem zh2:∀(i:List (List Nat))(b:List Nat),maxF (i.map L) (L b) (.int (b.length:Int))=some (L (fl i b))
 |[],b=>rfl
 |m::i,b=>by
  rw[map_cons]
  unfold maxF
  have e:J0 (L m)=some (.int (m.length:Int)):=by
   show some (D.int ((m.map dN).length:Int))=_
   rw[length_map]
  rw[e]
  show (match some (decide ((m.length:Int)>(b.length:Int)))with |some true=>_|some false=>_|none=>_)=_
  unfold fl
  by_cases h:b.length<m.length
  .rw[if_pos h,decide_eq_true (by lia)]
   show zh2 i m
  .rw[if_neg h,decide_eq_false (by lia)]
   show zh2 i b
theorem xr3 (i:List (List Nat)):maxD (i.map L) (.lst [])=some (L (flD i)):=by
 cases i with
 |nil=>rfl
 |cons m i=>
  show (match J0 (L m)with |some kd=>maxF (i.map L) (L m) kd|none=>none)=_
  have e:J0 (L m)=some (.int (m.length:Int)):=by
   show some (D.int ((m.map dN).length:Int))=_
   rw[length_map]
  rw[e]
  show zh2 i m
theorem K0 (R:List (List Nat))(qs:List Nat)(j:qs.length<=1000)(i:∀ q∈qs,q<R.length):m_Z3 [.lst (R.map L),.lst (qs.map dN)]=some (.sh (L (flD (qs.map fun q=>R.getD q [])))):=by
 delta m_Z3 b_Z3
 show T8 ?_
 have e1:X0 [none,some 0] (u6 (mvar 1)) (.nm 0) cyes (mix (bvar 1) (mvar 0)) (u0 2 [.lst (R.map L),.lst (qs.map dN)])=some ((qs.map fun q=>R.getD q []).map L):=by
  delta X0
  rw[j8 (m:=mvar 1) (ds:=qs.map dN) rfl,Option.bind_some]
  show(U9 (f:=dN) (G:=fun q=>L (R.getD q [])) (fun ks ρ=>(∀ q∈ks,q<R.length)/\∃ o,ρ=[o,some (.sh (.lst (R.map L)))]) (by
   rintro q ks ρ ⟨h,o,rfl⟩
   show⟨[some (.sh (dN q)),some (.sh (.lst (R.map L)))],rfl,rfl,h8 (m:=bvar 1) rfl rfl (at_L R q (h q (by simp))),fun r hr=>h r (by simp[hr]),_,rfl⟩) qs _ [] ⟨i,none,rfl⟩ (w5 (by simp;lia))).trans ?_
  rw[nil_append,map_map]
  rfl
 delta mret
 rw[yx6 e1 (t7 (v7 y0 (Nat.zero_le _))),xr3]
 rfl
theorem xp4 {i:Nat}{m:ME}{ρ:Ro}{ds:List D}{d:D}(h:ρ[i]? =some (some (.own ds)))(h2:m (ρ.set i (some (.sh (.lst ds))))=some d)(j:yh7 ds d=true):zh0 i m ρ=some d:=by
 delta zh0
 rw[h]
 simp only[h2,j,if_true]
theorem yq5 (l:List Nat):X8 (l.map dN)=true:=by
 induction l with
 |nil=>rfl
 |cons a l i=>show i
theorem xm8 (R:List (List Nat))(l:List Nat)(h:R≠[]):yh7 (R.map L) (L l)=true:=by
 cases R with
 |nil=>show absurd rfl h
 |cons a R=>
  show (X8 (l.map dN)&&true)=true
  rw[yq5];rfl
theorem zw8 {i:Nat}{z v:ME}{ρ:Ro}{A:List (List Nat)}{l:List Nat}{p:Nat}(h:ρ[i]? =some (some (.own (A.map L))))(hi:z ρ=some (.int (p:Int)))(G:v ρ=some (L l))(hp:p<A.length):U0 i z v ρ=some (.nx (ρ.set i (some (.own ((A.set p l).map L))))):=by
 delta U0
 rw[G,h,hi]
 show ((ixN (A.map L).length (p:Int)).map fun j=>Out.nx (ρ.set i (some (.own ((A.map L).set j (L l))))))=_
 rw[length_map,yn8 _ _ hp]
 show some (Out.nx _)=_
 rw[map_set]
theorem ek (l:List Nat):shOf (L9 [L l])=some (Ky l):=by rw[xf5];rfl
theorem xy0 {x y:ME}{ρ:Ro}{a b:List Nat}(h1:x ρ=some (L a))(h2:y ρ=some (L b)):C8 (fun d=>shOf (L9 [d])) (z5 x (z5 y anil)) ρ=some (L (if k8 b a=true then b else a)):=by
 rw[yp7 (z7 h1 (z7 h2 y0))]
 show (match shOf (L9 [L a])with |some kd=>minF _ [L b] (L a) kd|none=>none)=_
 rw[ek a]
 show minF (fun d=>shOf (L9 [d])) [L b] (L a) (Ky a)=_
 unfold minF
 simp only[ek b,xy4 b a]
 cases k8 b a <;> simp[minF]
noncomputable abbrev RI (r:List Int):D:=.lst (r.map .int)
noncomputable def Ab (η:List Int)(s:Int)(d:Bool):List (List Nat):=(List.range η.length).map (abv η s d)
noncomputable abbrev SP (η:List Int)(s:Int):D:=.tup [.lst ((Ab η s true).map L),.lst ((Ab η s false).map L)]
theorem zz6 (η:List Int)(s:Int)(d:Bool):(Ab η s d).length=η.length:=by delta Ab;simp
theorem yh2 (η:List Int)(s:Int)(d:Bool)(p:Nat)(h:p<η.length):(Ab η s d).getD p []=abv η s d p:=by
 delta Ab
 rw[getD_eq_getElem?_getD,getElem?_map,getElem?_range h];rfl
theorem ya5 (η:List Int)(s:Int)(d:Bool)(p:Nat):(abv η s d p).Pairwise (·<·):=by
 delta abv
 show List.Pairwise.filter _ ?_
 rw[pairwise_map]
 show(pairwise_lt_range).imp fun h=>by lia
noncomputable abbrev BS (η:List Int)(s:Int)(t:Nat)(d:Bool)(p:Nat):List Nat->Prop:=Best (FS (xr η) η.length s t d p)
noncomputable abbrev BR (η:List Int)(s:Int)(t:Nat)(d:Bool)(p:Nat):List Nat->Prop:=Best (FR (xr η) η.length s t d p)
theorem BS.len {η:List Int}{s:Int}{t:Nat}{d:Bool}{p:Nat}{l:List Nat}(h:BS η s t d p l):l.length<=η.length:=by
 let⟨a,m,rfl⟩:=h.1
 have:=a.len
 simp;lia
noncomputable def Few (η:List Int)(s:Int)(t:Nat)(U V:List (List Nat)):Prop:=U.length=η.length/\V.length=η.length/\∀ q,q<η.length->(t=0/\U.getD q []=[]/\V.getD q []=[])\/∃ u,t=u+1/\BS η s u true q (U.getD q [])/\BS η s u false q (V.getD q [])
theorem zp9 {η:List Int}{s:Int}{t:Nat}{d:Bool}{q:Nat}{a b:List Nat}(ha:BS η s t d q a)(i:(t=0/\b=[])\/∃ u,t=u+1/\BS η s u (!d) q b):BR η s t d q (if k8 b a=true then b else a):=by
 rcases i with⟨j,rfl⟩|⟨u,j,i⟩
 .have hne:a≠[]:=by
   let⟨_,m,e⟩:=ha.1
   rw[e];simp
  rw[zm5 a hne]
  simp only[Bool.false_eq_true,if_false]
  show ha.iff fun m=>⟨fun h=>⟨.inl h.1,h.2⟩,fun h=>⟨?_,h.2⟩⟩
  rcases h.1 with z|⟨u,e,_⟩
  .exact z
  .lia
 .refine ya2 ha i rfl fun l=>?_
  constructor
  .rintro⟨z|⟨v,e,z⟩,hd⟩
   .exact .inl ⟨z,hd⟩
   .have:v=u:=by lia
    subst this
    show .inr ⟨z,hd⟩
  .rintro(⟨z,hd⟩|⟨z,hd⟩)
   .exact⟨.inl z,hd⟩
   .exact⟨.inr ⟨u,j,z⟩,hd⟩
noncomputable def envT (η:List Int)(s:Int)(fU fV U V R G:List (List Nat))(o:Option S):Ro:=
 [some (.sh (SP η s)),some (.sh (.tup [.lst (fU.map L),.lst (fV.map L)])),some (.sh (.lst ((Ab η s true).map L))),some (.sh (.lst ((Ab η s false).map L))),some (.sh (.lst (fU.map L))),some (.sh (.lst (fV.map L))),some (.own (U.map L)),some (.own (V.map L)),some (.own (R.map L)),some (.own (G.map L)),o]
structure Tnd (η:List Int)(s:Int)(t p:Nat)(U V R G:List (List Nat)):Prop where
 lU:U.length=η.length
 lV:V.length=η.length
 lR:R.length=η.length
 lG:G.length=η.length
 at':∀ q,p<=q->q<η.length->BS η s t true q (U.getD q [])/\BS η s t false q (V.getD q [])/\BR η s t true q (R.getD q [])/\BR η s t false q (G.getD q [])
theorem yu0 {η:List Int}{s:Int}{t p:Nat}{N j U V R G:List (List Nat)}{o:Option S}(hr:η.length<=300)(hp:p<η.length)(hf:Few η s t N j)(h:Tnd η s t (p+1) U V R G):
  ∃ U' V' R' G',zf2 (envT η s N j U V R G (k0b p))=some (.nx (envT η s N j U' V' R' G' (k0b p)))/\Tnd η s t p U' V' R' G':=by
 have i1:0+1<=sizeLine:=w5 (by decide)
 have Z:∀(d:Bool)(T:List (List Nat)),T.length=η.length->(∀ q,p+1<=q->q<η.length->BR η s t d q (T.getD q []))->BS η s t d p (p::flD ((abv η s d p).map fun q=>T.getD q [])):=fun d T hT hb=>
  yi0 hp (fun q=>abv_mem) (ya5 η s d p) fun q I=>by
   let⟨a,b,_⟩:=abv_mem.mp I
   show hb q a b
 have ab:∀(d:Bool),∀ q∈abv η s d p,q<η.length:=fun d q I=>(abv_mem.mp I).2.1
 have bU:=Z true R h.lR fun q a b=>(h.at' q a b).2.2.1
 have bV:=Z false G h.lG fun q a b=>(h.at' q a b).2.2.2
 generalize eU:flD ((abv η s true p).map fun q=>R.getD q [])=u at bU
 generalize eV:flD ((abv η s false p).map fun q=>G.getD q [])=v at bV
 have lu:u.length+1<=η.length:=by have:=bU.len;simpa using this
 have lv:v.length+1<=η.length:=by have:=bV.len;simpa using this
 let⟨f1,f2,f3⟩:=hf
 have jU:=zp9 (b:=j.getD p []) bU (by
  rcases f3 p hp with⟨a,_,b⟩|⟨w,a,_,b⟩
  .exact .inl ⟨a,b⟩
  .exact .inr ⟨w,a,b⟩)
 have jV:=zp9 (b:=N.getD p []) bV (by
  rcases f3 p hp with⟨a,b,_⟩|⟨w,a,b,_⟩
  .exact .inl ⟨a,b⟩
  .exact .inr ⟨w,a,b⟩)
 have a2:R≠[]:=fun z=>by have:=h.lR;rw[z]at this;simp at this;lia
 have a4:G≠[]:=fun z=>by have:=h.lG;rw[z]at this;simp at this;lia
 show⟨U.set p (p::u),V.set p (p::v),R.set p (if k8 (j.getD p []) (p::u)=true then j.getD p []else p::u),G.set p (if k8 (N.getD p []) (p::v)=true then N.getD p []else p::v),?_,?_⟩
 .delta zf2
  have O:∀(ρ:Ro)(i k:Nat)(d:Bool)(T:List (List Nat)),ρ[i]? =some (some (.own (T.map L)))->i≠10->i≠k->k≠10->i<11->ρ.length=11->ρ[k]? =some (some (.sh (.lst ((Ab η s d).map L))))->ρ[10]? =some (k0b p)->T.length=η.length->T≠[]->
    u6 (zh0 i (n4 m_Z3 (z5 (mvar i) (z5 (mix (bvar k) (mvar 10)) anil)))) ρ=some ((flD ((abv η s d p).map fun q=>T.getD q [])).map dN):=by
   intro ρ i k d T hi Y a3 a5 a6 hl hk a1 lT hT
   show j8 (xp4 hi ?_ (xm8 T _ hT))
   have g1:mvar i (ρ.set i (some (.sh (.lst (T.map L)))))=some (.lst (T.map L)):=by
    delta mvar
    rw[getElem?_set_self (by lia)]
   have g2:mix (bvar k) (mvar 10) (ρ.set i (some (.sh (.lst (T.map L)))))=some (L (abv η s d p)):=by
    show h8 (ds:=(Ab η s d).map L) (k:=(p:Int)) ?_ ?_ ?_
    .delta bvar;rw[getElem?_set_ne a3,hk]
    .delta mvar;rw[getElem?_set_ne Y,a1]
    .rw[at_L _ p (by rw[zz6];show hp),yh2 η s d p hp]
   show g6 (z7 g1 (z7 g2 y0)) (K0 T (abv η s d p) (by have:=zz5 η s d p;lia) fun q I=>by have:=ab d q I;lia)
  have put:∀(ρ:Ro)(m:ML)(w:List Nat),ρ[10]? =some (k0b p)->m ρ=some (w.map dN)->w.length+1<=η.length->mlst (mcat (w8 (z5 (mvar 10) anil)) m) ρ=some (L (p::w)):=by
   intro ρ m w Y hm hw
   have g:mvar 10 ρ=some (.int (p:Int)):=by delta mvar;rw[Y]
   rw[t7 (yo2 (v7 (z7 g y0) i1) hm (by rw[length_map,length_singleton];show w5 (by lia)))]
   rfl
  show seqI (ρ':=envT η s N j (U.set p (p::u)) V R G (k0b p)) ?_ (seqI (ρ':=envT η s N j (U.set p (p::u)) (V.set p (p::v)) R G (k0b p)) ?_ (seqI (ρ':=envT η s N j (U.set p (p::u)) (V.set p (p::v)) (R.set p (if k8 (j.getD p []) (p::u)=true then j.getD p []else p::u)) G (k0b p)) ?_ ?_))
  .exact zw8 (A:=U) rfl rfl (put _ _ u rfl (by rw[O _ 8 2 true R rfl (by decide) (by decide) (by decide) (by decide) rfl rfl rfl h.lR a2,eU]) lu) (by rw[h.lU];show hp)
  .exact zw8 (A:=V) rfl rfl (put _ _ v rfl (by rw[O _ 9 3 false G rfl (by decide) (by decide) (by decide) (by decide) rfl rfl rfl h.lG a4,eV]) lv) (by rw[h.lV];show hp)
  .refine zw8 (A:=R) rfl rfl (xy0 (a:=p::u) (b:=j.getD p []) ?_ ?_) (by rw[h.lR];show hp)
   .exact h8 (m:=bvar 6) rfl rfl ((at_L (U.set p (p::u)) p (by rw[length_set,h.lU];show hp)).trans (by rw[a9 _ _ _ (by rw[h.lU];show hp)]))
   .exact h8 (m:=bvar 5) rfl rfl (at_L j p (by rw[f2];show hp))
  .refine zw8 (A:=G) rfl rfl (xy0 (a:=p::v) (b:=N.getD p []) ?_ ?_) (by rw[h.lG];show hp)
   .exact h8 (m:=bvar 7) rfl rfl ((at_L (V.set p (p::v)) p (by rw[length_set,h.lV];show hp)).trans (by rw[a9 _ _ _ (by rw[h.lV];show hp)]))
   .exact h8 (m:=bvar 4) rfl rfl (at_L N p (by rw[f1];show hp))
 .refine⟨by rw[length_set];show h.lU,by rw[length_set];show h.lV,by rw[length_set];show h.lR,by rw[length_set];show h.lG,fun q h1 h2=>?_⟩
  by_cases I:p=q
  .subst I
   rw[a9 _ _ _ (by rw[h.lU];show hp),a9 _ _ _ (by rw[h.lV];show hp),a9 _ _ _ (by rw[h.lR];show hp),a9 _ _ _ (by rw[h.lG];show hp)]
   show⟨bU,bV,jU,jV⟩
  .rw[S0 _ _ _ _ I,S0 _ _ _ _ I,S0 _ _ _ _ I,S0 _ _ _ _ I]
   show h.at' q (by lia) h2
theorem zi4 (n:Nat)(hn:n<=300)(ρ:Ro)(m:ML)(ds:List D)(hm:m ρ=some ds)(hd:ds.length=n):mrep (w8 (z5 (mlst (w8 anil)) anil)) (mlen m) ρ=some ((List.replicate n ([]:List Nat)).map L):=by
 have i1:0+1<=sizeLine:=w5 (by decide)
 have i:=n5
 rw[zi6 (ds:=[.lst []]) (k:=(n:Int)) (v7 (z7 (t7 (v7 y0 (Nat.zero_le _))) y0) i1) (by rw[W9 hm,hd]) (by delta zk9;simp only[Bool.and_eq_true,decide_eq_true_eq,length_singleton];lia),Int.toNat_natCast]
 congr 1
 rw[map_replicate,flatten_replicate_singleton]
 rfl
theorem yt3 (n q:Nat):(List.replicate n ([]:List Nat)).getD q []=[]:=by
 rw[getD_eq_getElem?_getD,getElem?_replicate]
 split <;> rfl
theorem g5 {η:List Int}{s:Int}{t:Nat}{N z:List (List Nat)}(hr:η.length<=300)(hf:Few η s t N z):
  ∃ U V,m_Z5 [SP η s,.tup [.lst (N.map L),.lst (z.map L)]]=some (.sh (.tup [.lst (U.map L),.lst (V.map L)]))/\Few η s (t+1) U V:=by
 suffices h:Run b_Z5 (u0 11 [SP η s,.tup [.lst (N.map L),.lst (z.map L)]]) (fun o=>∃ U V:List (List Nat),o= .rt (.tup [.lst (U.map L),.lst (V.map L)])/\Few η s (t+1) U V)by
  let⟨o,e,U,V,rfl,r⟩:=h
  show⟨U,V,T8 e,r⟩
 delta b_Z5
 have Y:okR (η.length:Int)=true:=Y4 (by lia) (by lia)
 have i2:2<=sizeLine:=w5 (by decide)
 show b9 (ρ':=[some (.sh (SP η s)),some (.sh (.tup [.lst (N.map L),.lst (z.map L)])),some (.sh (.lst ((Ab η s true).map L))),some (.sh (.lst ((Ab η s false).map L))),none,none,none,none,none,none,none]) rfl ?_
 show b9 (ρ':=[some (.sh (SP η s)),some (.sh (.tup [.lst (N.map L),.lst (z.map L)])),some (.sh (.lst ((Ab η s true).map L))),some (.sh (.lst ((Ab η s false).map L))),some (.sh (.lst (N.map L))),some (.sh (.lst (z.map L))),none,none,none,none,none]) rfl ?_
 have O:∀(i:Nat)(ρ:Ro),bvar 2 ρ=some ((Ab η s true).map L)->d3 i (mrep (w8 (z5 (mlst (w8 anil)) anil)) (mlen (bvar 2))) ρ=some (.nx (ρ.set i (some (.own ((List.replicate η.length ([]:List Nat)).map L))))):=fun i ρ hb=>by
  delta d3
  rw[zi4 η.length hr ρ (bvar 2) _ hb (by rw[length_map,zz6])]
  rfl
 show b9 (O 6 _ rfl) (b9 (O 7 _ rfl) (b9 (O 8 _ rfl) (b9 (ρ':=envT η s N z (List.replicate η.length []) (List.replicate η.length []) (List.replicate η.length []) (List.replicate η.length []) none) (O 9 _ rfl) ?_)))
 have ed:K2 η.length=(List.range η.length).map fun(j:Nat)=>D.int ((η.length:Int)-1-(j:Int)):=rfl
 show zv0 (zv1 η.length (f:=fun(j:Nat)=>D.int ((η.length:Int)-1-(j:Int))) ?_
  (I:=fun j ρ=>∃ U V R G o,Tnd η s t (η.length-j) U V R G/\ρ=envT η s N z U V R G o) _
  ⟨_,_,_,_,_,⟨by simp,by simp,by simp,by simp,fun q h1 h2=>by lia⟩,rfl⟩ ?_ ?_)
 .delta t9
  rw[z7 (x:=mlen (bvar 2)) (d:=.int (((Ab η s true).map L).length:Int)) (W9 rfl) y0,Option.bind_some,length_map,zz6,yt0 Y,Int.toNat_natCast,ed]
 .rintro j ρ hj ⟨U,V,R,G,o,h,rfl⟩
  have e:(η.length:Int)-1-(j:Int)=((η.length-1-j:Nat):Int):=by lia
  rw[e]
  show⟨envT η s N z U V R G (some (.sh (.int ((η.length-1-j:Nat):Int)))),rfl,?_⟩
  have e2:η.length-1-j+1=η.length-j:=by lia
  let⟨U',V',R',G',eb,hT⟩:=yu0 (o:=o) hr (show η.length-1-j<η.length by lia) hf (by rw[e2];show h)
  show⟨_,eb,U',V',R',G',_,by rw[show η.length-(j+1)=η.length-1-j by lia];show hT,rfl⟩
 .rintro ρ ⟨U,V,R,G,o,h,rfl⟩
  rw[Nat.sub_self]at h
  delta yi2
  show V4 (ds:=U.map L) rfl (V4 (ds:=V.map L) rfl ⟨_,L6 (C6 (z7 (d:=.lst (U.map L)) rfl (z7 (d:=.lst (V.map L)) rfl y0)) i2),U,V,rfl,h.lU,h.lV,fun q Z=>?_⟩)
  let⟨a,b,_⟩:=h.at' q (Nat.zero_le _) Z
  show .inr ⟨t,rfl,a,b⟩
end
section
open PySem L2
theorem wx4 (a b:Nat):gtI (dN b) (dN a)=some (decide (a<b)):=by
 show some (decide ((a:Int)<(b:Int)))=_
 congr 1
 apply decide_eq_decide.mpr
 lia
theorem zh1:∀(ns:List Nat)(a:Nat),∃ v,maxP (ns.map dN) (dN a)=some (dN v)/\(∀ y∈a::ns,y<=v)/\v∈a::ns
 |[],a=>⟨a,rfl,by simp,by simp⟩
 |b::ns,a=>by
  rw[map_cons,maxP,wx4]
  by_cases h:a<b
  .rw[decide_eq_true h]
   let⟨v,e,i,G⟩:=zh1 ns b
   show⟨v,e,fun y j=>?_,mem_cons_of_mem _ G⟩
   rcases List.mem_cons.mp j with z|z
   .have:=i b (by simp);lia
   .exact i y z
  .rw[decide_eq_false h]
   let⟨v,e,i,G⟩:=zh1 ns a
   show⟨v,e,fun y j=>?_,?_⟩
   .rcases List.mem_cons.mp j with z|z
    .exact i y (by simp[z])
    .rcases List.mem_cons.mp z with z|z
     .have:=i a (by simp);lia
     .exact i y (by simp[z])
   .rcases List.mem_cons.mp G with z|z
    .simp[z]
    .simp[z]
theorem yo6 (ns:List Nat):∃ v,maxE (ns.map dN) (.int 0)=some (dN v)/\(∀ y∈ns,y<=v)/\(ns=[]/\v=0\/v∈ns):=by
 cases ns with
 |nil=>show⟨0,rfl,by simp,.inl ⟨rfl,rfl⟩⟩
 |cons a ns=>
  let⟨v,e,j,i⟩:=zh1 ns a
  show⟨v,e,j,.inr i⟩
theorem dns (ns:List Nat):ns.map dN=(ns.map fun(k:Nat)=>(k:Int)).map .int:=by rw[map_map];rfl
end
section
open PySem L2
theorem zv9 (η:List Int)(s:Int):Few η s 0 (List.replicate η.length []) (List.replicate η.length []):=
 ⟨by simp,by simp,fun q _=>.inl ⟨rfl,yt3 _ _,yt3 _ _⟩⟩
noncomputable abbrev TP2 (U V:List (List Nat)):D:=.tup [.lst (U.map L),.lst (V.map L)]
theorem zi3 (η:List Int)(hr:η.length<=300):yd8 [RI η]=some (.sh (TP2 (List.replicate η.length []) (List.replicate η.length []))):=by
 delta yd8 xp8
 have i2:2<=sizeLine:=w5 (by decide)
 have e:=zi4 η.length hr (u0 1 [RI η]) (bvar 0) _ rfl (by rw[length_map])
 show T8 (L6 (C6 (z7 (t7 e) (z7 (t7 e) y0)) i2))
noncomputable abbrev BT (η:List Int)(s:Int)(t:Nat):List Nat->Prop:=Best (Tn (xr η) η.length s t)
theorem d6 {η:List Int}{s:Int}{t:Nat}{U V:List (List Nat)}(hr:η.length<=300)(h:Few η s (t+1) U V):∃ l,zu8 [TP2 U V]=some (.sh (L l))/\BT η s t l:=by
 let⟨Y,O,hd⟩:=h
 have hd:∀ q,q<η.length->BS η s t true q (U.getD q [])/\BS η s t false q (V.getD q []):=fun q j=>by
  rcases hd q j with⟨z,_⟩|⟨u,e,a,b⟩
  .lia
  .have:u=t:=by lia
   subst this
   show⟨a,b⟩
 have i:∃ l,minD (fun d=>shOf (L9 [d])) ((U++V).map L) (.lst [])=some (L l)/\BT η s t l:=by
  cases hc:U++V with
  |nil=>
   have:η.length=0:=by
    have:=congrArg List.length hc
    rw[length_append,length_nil]at this
    lia
   show⟨[],rfl,zf0 this⟩
  |cons b G=>
   let⟨r,e,h1,h2⟩:=zu3 (mk:=fun d=>shOf (L9 [d])) ek G b
   show⟨r,?_,?_⟩
   .show (match shOf (L9 [L b])with |some kd=>minF _ (G.map L) (L b) kd|none=>none)=_
    rw[ek b]
    show e
   .rw[<-hc]at h1 h2
    have all:∀ m∈U++V,∃ d q,BS η s t d q m:=by
     intro m hm
     rcases List.mem_append.mp hm with h|h
     .let⟨q,j,rfl⟩:=zb5 h
      show⟨true,q,(hd q (by lia)).1⟩
     .let⟨q,j,rfl⟩:=zb5 h
      show⟨false,q,(hd q (by lia)).2⟩
    show yw6 h1 h2 (fun m hm=>?_) (fun d p hp=>?_) ?_
    .let⟨d,q,h⟩:=all m hm
     show .inr ⟨d,h.1.1⟩
    .cases d
     .exact⟨_,mem_append_right _ (za8 (q:=p) (by lia)),(hd p hp).2⟩
     .exact⟨_,mem_append_left _ (za8 (q:=p) (by lia)),(hd p hp).1⟩
    .let⟨d,q,h⟩:=all r h1
     intro z
     rw[z]at h
     show h.1.1
 let⟨l,e,N⟩:=i
 show⟨l,?_,N⟩
 delta zu8 xo4
 show zd2 (b9 (ρ':=[some (.sh (TP2 U V)),some (.sh (.lst (U.map L))),some (.sh (.lst (V.map L)))]) rfl ⟨_,?_,rfl⟩)
 have e1:u6 (m2 addD (mvar 1) (mvar 2)) [some (.sh (TP2 U V)),some (.sh (.lst (U.map L))),some (.sh (.lst (V.map L)))]=some ((U++V).map L):=by
  have I:(U.map L).length+(V.map L).length<=sizeLine:=w5 (by simp;lia)
  show j8 ?_
  delta m2
  show (if (U.map L).length+(V.map L).length<=sizeLine then some (D.lst (U.map L++V.map L))else none)=_
  rw[if_pos I,map_append]
 delta mret
 rw[yd0 e1 (t7 (v7 y0 (Nat.zero_le _))),e]
 rfl
theorem yy6 {η:List Int}{s:Int}(hr:η.length<=300){ρ:Ro}(i:mvar 0 ρ=some (RI η))(h1:mvar 1 ρ=some (.int s)):n4 yo9 (z5 (mvar 0) (z5 (mvar 1) anil)) ρ=some (SP η s):=
 g6 (z7 i (z7 h1 y0)) (zz9 η s hr)
noncomputable def Mx (η:List Int)(s:Int)(p m:Nat):Prop:=(∃ l d,Sd (xr η) η.length s l η.length d/\Hd p l/\l.length=m)/\∀ l t d,Sd (xr η) η.length s l t d->Hd p l->l.length<=m
theorem xs7 {η:List Int}{s:Int}{p v:Nat}{ms:Nat->Nat}(hp:p<η.length)(hm:∀ q,p<q->q<η.length->Mx η s q (ms q))
  (h1:∀ d,∀ q∈abv η s d p,ms q<=v) (h2:v=0\/∃ d,∃ q∈abv η s d p,ms q=v):Mx η s p (1+v):=by
 constructor
 .rcases h2 with rfl|⟨d,q,j,e⟩
  .exact⟨[p],true,hp,⟨[],rfl⟩,rfl⟩
  .let⟨a,b,c⟩:=abv_mem.mp j
   let⟨⟨l,d',i,⟨m,rfl⟩,e2⟩,_⟩:=hm q a b
   have N:Sd (xr η) η.length s (p::q::m) (η.length+1) d:=by
    show⟨a,c,?_⟩
    by_cases hd:d'=d
    .subst hd;show .inl (i.mono (by lia))
    .have:d'= !d:=by ext d <;> ext d' <;> simp_all
     subst this
     show .inr ⟨η.length,rfl,i⟩
   have G:=N.len
   show⟨p::q::m,d,N.enough.mono (by simp at G ⊢;lia),⟨_,rfl⟩,?_⟩
   rw[length_cons,e2,e];lia
 .rintro l t d i ⟨m,rfl⟩
  cases m with
  |nil=>simp
  |cons q m=>
   have j:q<η.length:=by
    rcases i.2.2 with z|⟨u,_,z⟩
    .exact z.lt
    .exact z.lt
   have I:=abv_mem.mpr ⟨i.1,j,i.2.1⟩
   have:=h1 d q I
   have O:(q::m).length<=ms q:=by
    rcases i.2.2 with z|⟨u,_,z⟩
    .exact(hm q i.1 j).2 _ _ _ z ⟨_,rfl⟩
    .exact(hm q i.1 j).2 _ _ _ z ⟨_,rfl⟩
   rw[length_cons];lia
noncomputable def envM (η:List Int)(s:Int)(ms:List Nat)(o:Option S):Ro:=[some (.sh (SP η s)),some (.sh (.lst ((Ab η s true).map L))),some (.sh (.lst ((Ab η s false).map L))),some (.own (ms.map dN)),o]
theorem wx9 (ms:List Nat)(p:Nat)(h:p<ms.length):atI (ms.map dN) (p:Int)=some (dN (ms.getD p 0)):=by
 have:=zt7 dN ms (p:Int) (by lia) (by lia) 0
 rw[Int.toNat_natCast]at this
 show this
theorem yp5 {η:List Int}{s:Int}{p:Nat}{ms:List Nat}{o:Option S}(hr:η.length<=300)(hp:p<η.length)(Y:ms.length=η.length)(h:∀ q,p<q->q<η.length->Mx η s q (ms.getD q 0)):
  ∃ v,zt6 (envM η s ms (k0b p))=some (.nx (envM η s (ms.set p v) (k0b p)))/\Mx η s p v:=by
 delta zt6
 have O:∀(d:Bool),∀ q∈abv η s d p,q<ms.length:=fun d q i=>by rw[Y];show(abv_mem.mp i).2.1
 have e1:u6 (m2 addD (mix (bvar 1) (mvar 4)) (mix (bvar 2) (mvar 4))) (envM η s ms (k0b p))=some ((abv η s true p++abv η s false p).map dN):=by
  show j8 ?_
  have N:mix (bvar 1) (mvar 4) (envM η s ms (k0b p))=some (L (abv η s true p)):=h8 (ds:=(Ab η s true).map L) (k:=(p:Int)) rfl rfl (by rw[at_L _ p (by rw[zz6];show hp),yh2 η s true p hp])
  have I:mix (bvar 2) (mvar 4) (envM η s ms (k0b p))=some (L (abv η s false p)):=h8 (ds:=(Ab η s false).map L) (k:=(p:Int)) rfl rfl (by rw[at_L _ p (by rw[zz6];show hp),yh2 η s false p hp])
  rw[k7 N I]
  have U:((abv η s true p).map dN).length+((abv η s false p).map dN).length<=sizeLine:=w5 (by have:=zz5 η s true p;have:=zz5 η s false p;simp;lia)
  show (if ((abv η s true p).map dN).length+((abv η s false p).map dN).length<=sizeLine then some (D.lst ((abv η s true p).map dN++(abv η s false p).map dN))else none)=_
  rw[if_pos U,map_append]
 have e2:C9 [none,some 3] (u6 (m2 addD (mix (bvar 1) (mvar 4)) (mix (bvar 2) (mvar 4)))) (.nm 0) cyes (mix (bvar 1) (mvar 0)) (envM η s ms (k0b p))=some (((abv η s true p++abv η s false p).map fun q=>ms.getD q 0).map dN):=by
  delta C9
  rw[e1,Option.bind_some]
  show(U9 (f:=dN) (G:=fun q=>dN (ms.getD q 0)) (fun ks ρ=>(∀ q∈ks,q<ms.length)/\∃ x,ρ=[x,some (.own (ms.map dN))]) (by
   rintro q ks ρ ⟨hh,x,rfl⟩
   show⟨[some (.sh (dN q)),some (.own (ms.map dN))],rfl,rfl,h8 (m:=bvar 1) rfl rfl (wx9 ms q (hh q (by simp))),fun r hr=>hh r (by simp[hr]),_,rfl⟩) _ _ [] ⟨fun q i=>?_,none,rfl⟩ (w5 ?_)).trans ?_
  .rcases List.mem_append.mp i with z|z
   .exact O true q z
   .exact O false q z
  .have:=zz5 η s true p;have:=zz5 η s false p
   simp;lia
  .rw[nil_append,map_map];rfl
 let⟨v,Z,N,I⟩:=yo6 ((abv η s true p++abv η s false p).map fun q=>ms.getD q 0)
 show⟨1+v,?_,?_⟩
 .have e3:m2 addD (mc (.int 1)) (zp0 (C9 [none,some 3] (u6 (m2 addD (mix (bvar 1) (mvar 4)) (mix (bvar 2) (mvar 4)))) (.nm 0) cyes (mix (bvar 1) (mvar 0))) (mc (.int 0))) (envM η s ms (k0b p))=some (dN (1+v)):=by
   rw[k7 (a:=.int 1) (b:=dN v) rfl ((zb2 e2 rfl).trans Z)]
   have q:(1+(v:Int))=((1+v:Nat):Int):=by lia
   show some (D.int (1+(v:Int)))=some (D.int ((1+v:Nat):Int))
   rw[q]
  delta U0
  rw[e3]
  show ((ixN (ms.map dN).length (p:Int)).map fun j=>Out.nx ((envM η s ms (k0b p)).set 3 (some (.own ((ms.map dN).set j (dN (1+v)))))))=_
  rw[length_map,yn8 _ _ (by lia)]
  show some (Out.nx _)=_
  rw[<-map_set]
  rfl
 .refine xs7 (ms:=fun q=>ms.getD q 0) hp h (fun d q i=>N _ (List.mem_map.mpr ⟨q,?_,rfl⟩)) ?_
  .cases d
   .exact mem_append_right _ i
   .exact mem_append_left _ i
  .rcases I with⟨_,z⟩|z
   .exact .inl z
   .let⟨q,i,e⟩:=List.mem_map.mp z
    rcases List.mem_append.mp i with i|i
    .exact .inr ⟨true,q,i,e⟩
    .exact .inr ⟨false,q,i,e⟩
theorem ym5 (ms:List Nat)(p q v:Nat)(h:p<ms.length):(ms.set p v).getD q 0=if p=q then v else ms.getD q 0:=by
 rw[getD_eq_getElem?_getD,getD_eq_getElem?_getD]
 by_cases e:p=q
 .subst e;rw[getElem?_set_self h,if_pos rfl];rfl
 .rw[getElem?_set_ne e,if_neg e]
theorem R8 (η:List Int)(s:Int)(hr:η.length<=300):∃ M,yc1 [SP η s]=some (.sh (dN M))/\(∀ t l,Tn (xr η) η.length s t l->l.length<=M)/\∃ l,Tn (xr η) η.length s η.length l/\l.length=M:=by
 suffices h:Run ya4 (u0 5 [SP η s]) (fun o=>∃ M,o= .rt (dN M)/\(∀ t l,Tn (xr η) η.length s t l->l.length<=M)/\∃ l,Tn (xr η) η.length s η.length l/\l.length=M)by
  let⟨o,e,M,rfl,r⟩:=h
  show⟨M,T8 e,r⟩
 delta ya4
 have O:okR (η.length:Int)=true:=Y4 (by lia) (by lia)
 have i1:0+1<=sizeLine:=w5 (by decide)
 have a1:=n5
 show b9 (ρ':=[some (.sh (SP η s)),some (.sh (.lst ((Ab η s true).map L))),some (.sh (.lst ((Ab η s false).map L))),none,none]) rfl ?_
 show b9 (ρ':=envM η s (List.replicate η.length 0) none) ?_ ?_
 .delta d3
  rw[zi6 (ds:=[.int 0]) (k:=(η.length:Int)) (v7 (z7 (d:=.int 0) rfl y0) i1) (by rw[W9 (m:=bvar 1) (ds:=(Ab η s true).map L) rfl,length_map,zz6]) (by delta zk9;simp only[Bool.and_eq_true,decide_eq_true_eq,length_singleton];lia),Int.toNat_natCast,flatten_replicate_singleton]
  show some (Out.nx _)=_
  delta envM
  rw[map_replicate]
  rfl
 have ed:K2 η.length=(List.range η.length).map fun(j:Nat)=>D.int ((η.length:Int)-1-(j:Int)):=rfl
 show zv0 (zv1 η.length (f:=fun(j:Nat)=>D.int ((η.length:Int)-1-(j:Int))) ?_
  (I:=fun j ρ=>∃ ms o,ms.length=η.length/\(∀ q,η.length-j<=q->q<η.length->Mx η s q (ms.getD q 0))/\ρ=envM η s ms o) _
  ⟨_,_,by simp,fun q h1 h2=>by lia,rfl⟩ ?_ ?_)
 .delta t9
  rw[z7 (x:=mlen (bvar 1)) (d:=.int (((Ab η s true).map L).length:Int)) (W9 rfl) y0,Option.bind_some,length_map,zz6,yt0 O,Int.toNat_natCast,ed]
 .rintro j ρ hj ⟨ms,o,hl,h,rfl⟩
  have e:(η.length:Int)-1-(j:Int)=((η.length-1-j:Nat):Int):=by lia
  rw[e]
  show⟨envM η s ms (some (.sh (.int ((η.length-1-j:Nat):Int)))),rfl,?_⟩
  let⟨v,eb,U⟩:=yp5 (o:=o) hr (show η.length-1-j<η.length by lia) hl fun q h1 h2=>h q (by lia) h2
  show⟨_,eb,ms.set (η.length-1-j) v,_,by rw[length_set];show hl,fun q h1 h2=>?_,rfl⟩
  rw[ym5 _ _ _ _ (by lia)]
  by_cases G:η.length-1-j=q
  .rw[if_pos G,<-G];show U
  .rw[if_neg G];show h q (by lia) h2
 .rintro ρ ⟨ms,o,hl,h,rfl⟩
  rw[Nat.sub_self]at h
  delta yz9
  let⟨v,ev,Z,Y⟩:=yo6 ms
  show V4 (ds:=ms.map dN) rfl ⟨_,L6 ((zb2 (ds:=ms.map dN) (d0:=.int 0) rfl rfl).trans ev),v,rfl,fun t l N=>?_,?_⟩
  .rcases N with rfl|⟨d,i⟩
   .simp
   .cases l with
    |nil=>show i.elim
    |cons p l=>
     have hp:=i.lt
     show Nat.le_trans ((h p (Nat.zero_le _) hp).2 _ _ _ i ⟨_,rfl⟩) (Z _ ?_)
     rw[getD_eq_getElem?_getD,getElem?_eq_getElem (by lia)]
     show getElem_mem _
  .rcases Y with⟨z,rfl⟩|z
   .exact⟨[],.inl rfl,rfl⟩
   .let⟨p,hp,e⟩:=getElem_of_mem z
    let⟨⟨l,d,i,hH,e2⟩,_⟩:=h p (Nat.zero_le _) (by lia)
    show⟨l,.inr ⟨d,i⟩,?_⟩
    rw[e2,getD_eq_getElem?_getD,getElem?_eq_getElem hp,<-e];rfl
end
section
open PySem L2
theorem zs0 {c:MB}{body:MS}{I:Nat->Ro->Prop}{Q:Ro->Prop}
  (h:∀ k ρ,I k ρ->(c ρ=some false/\Q ρ)\/(c ρ=some true/\∃ ρ',body ρ=some (.nx ρ')/\∃ k',k'<k/\I k' ρ')):
  ∀(f k:Nat)(ρ:Ro),k<f->I k ρ->∃ ρ',R1 c body f ρ=some (.nx ρ')/\Q ρ'
 |0,k,ρ,hk,_=>by lia
 |f+1,k,ρ,hk,hI=>by
  unfold R1
  rcases h k ρ hI with⟨i,z⟩|⟨i,ρ',N,k',G,j⟩
  .exact⟨ρ,by rw[i],z⟩
  .let⟨ρ2,e,q⟩:=zs0 h f k' ρ' (by lia) j
   show⟨ρ2,?_,q⟩
   rw[i]
   simp only[N]
   show e
noncomputable def Kt (η:List Int)(s:Int)(t k:Nat):Prop:=∃ l,BT η s t l/\l.length=k
theorem Kt.uniq {η:List Int}{s:Int}{t a b:Nat}(h1:Kt η s t a)(h2:Kt η s t b):a=b:=by
 let⟨l,i,rfl⟩:=h1
 let⟨m,hm,rfl⟩:=h2
 rw[i.unique hm]
structure Kpt (η:List Int)(s:Int)(ks:List Nat):Prop where
 pos:0<ks.length
 few:ks.length<=η.length+1
 at':∀ i,i<ks.length->Kt η s i (ks.getD i 0)
 last:∀ t k,Kt η s t k->k<=ks.getD (ks.length-1) 0
 less:∀ i,i+1<ks.length->ks.getD i 0<ks.getD (ks.length-1) 0
noncomputable def envK (o0:Option S)(η:List Int)(s:Int)(M:Nat)(U V:List (List Nat))(ks:List Nat):Ro:=[o0,k0c s,some (.sh (SP η s)),some (.sh (dN M)),some (.sh (TP2 U V)),some (.own (ks.map dN))]
theorem yi4 (ks:List Nat)(h:0<ks.length):atI (ks.map dN) (-1)=some (dN (ks.getD (ks.length-1) 0)):=by
 delta atI ixN
 rw[length_map,if_neg (by decide),if_pos (by lia)]
 have e:(-1+(ks.length:Int)).toNat=ks.length-1:=by lia
 rw[e]
 rw[Option.bind_some,getElem?_map,getD_eq_getElem?_getD,getElem?_eq_getElem (by lia)]
 rfl
theorem za9 (ks:List Nat)(v i:Nat):(ks++[v]).getD i 0=if i<ks.length then ks.getD i 0 else if i=ks.length then v else 0:=by
 rw[getD_eq_getElem?_getD,getD_eq_getElem?_getD]
 by_cases h:i<ks.length
 .rw[if_pos h,getElem?_append_left h]
 .rw[if_neg h,getElem?_append_right (by lia)]
  by_cases h2:i=ks.length
  .rw[if_pos h2,h2,Nat.sub_self];rfl
  .rw[if_neg h2,getElem?_eq_none (by simp;lia)];rfl
theorem xw2 (ρ:Ro)(U V:List (List Nat))(l:List Nat)(i:mvar 4 ρ=some (TP2 U V))(h:zu8 [TP2 U V]=some (.sh (L l))):mlen (u6 (n4 zu8 (z5 (mvar 4) anil))) ρ=some (dN l.length):=by
 rw[W9 (j8 (ds:=l.map dN) (g6 (z7 i y0) h)),length_map];rfl
theorem B5 (N:Option S)(η:List Int)(s:Int)(hr:η.length<=300)(M:Nat)(a3:∀ t l,Tn (xr η) η.length s t l->l.length<=M)(lM:List Nat)(a6:Tn (xr η) η.length s η.length lM)(a9:lM.length=M)(U V:List (List Nat))(a4:Few η s 1 U V)(l0:List Nat)(a5:BT η s 0 l0):∃ Y O ks,Kpt η s ks/\R1 (v3 (m2 ltD (mix (bvar 5) (m1 negD (mc (.int 1)))) (mvar 3))) K4 1000 (envK N η s M U V [l0.length])=some (.nx (envK N η s M Y O ks)):=by
 have aa:=n5
 have hW:=zs0 (c:=v3 (m2 ltD (mix (bvar 5) (m1 negD (mc (.int 1)))) (mvar 3))) (body:=K4)
  (I:=fun k ρ=>∃ U V ks,Few η s ks.length U V/\0<ks.length/\ks.length+k=η.length+1/\(∀ i,i<ks.length->Kt η s i (ks.getD i 0))/\(∀ i,i+1<ks.length->ks.getD i 0<M)/\ρ=envK N η s M U V ks)
  (Q:=fun ρ=>∃ U V ks,Kpt η s ks/\ρ=envK N η s M U V ks) ?_ 1000 η.length (envK N η s M U V [l0.length]) (by lia) ⟨U,V,[l0.length],a4,by simp,by simp;lia,fun i hi=>?_,fun i hi=>by simp at hi,rfl⟩
 .let⟨ρ',e,Y,O,ks,hk,rfl⟩:=hW
  show⟨Y,O,ks,hk,e⟩
 .rintro k ρ ⟨U,V,ks,hf,hpos,hlen,hat,hless,rfl⟩
  have hc:v3 (m2 ltD (mix (bvar 5) (m1 negD (mc (.int 1)))) (mvar 3)) (envK N η s M U V ks)=some (decide (ks.getD (ks.length-1) 0<M)):=by
   rw[xm7 (i:=((ks.getD (ks.length-1) 0:Nat):Int)) (j:=(M:Int)) (h8 (m:=bvar 5) (k:=-1) rfl rfl (yi4 ks hpos)) rfl]
   have:((((ks.getD (ks.length-1) 0:Nat):Int)<(M:Int))↔ks.getD (ks.length-1) 0<M):=by lia
   rw[decide_eq_decide.mpr this]
  have G:=hat (ks.length-1) (by lia)
  have a7:ks.getD (ks.length-1) 0<=M:=by
   let⟨l,hl,e⟩:=G
   rw[<-e];show a3 _ l hl.1
  by_cases Z:ks.getD (ks.length-1) 0<M
  .rw[decide_eq_true Z]at hc
   show .inr ⟨hc,?_⟩
   have a8:ks.length<=η.length:=by
    rcases Nat.lt_or_ge η.length ks.length with z|z
    .exfalso
     let⟨l,hl,e⟩:=G
     have:lM.length<=l.length:=hl.len lM (a6.mono (by lia))
     lia
    .exact z
   let⟨Y,O,e1,a2⟩:=g5 hr hf
   let⟨l,el,hb⟩:=d6 hr a2
   show⟨envK N η s M Y O (ks++[l.length]),?_,η.length-ks.length,by lia,Y,O,ks++[l.length],by simpa using a2,by simp,by simp;lia,fun i hi=>?_,fun i hi=>?_,rfl⟩
   .delta K4
    show seqI (ρ':=envK N η s M Y O ks) ((Y8 (g6 (z7 (d:=SP η s) rfl (z7 (d:=TP2 U V) rfl y0)) e1)).trans rfl) ?_
    delta mapp
    rw[xw2 _ Y O l rfl el]
    show (some (dN l.length)).bind (fun d=>if (ks.map dN).length<sizeLine then some (Out.nx ((envK N η s M Y O ks).set 5 (some (.own (ks.map dN++[d])))))else none)=_
    rw[Option.bind_some,if_pos (by rw[length_map];lia)]
    delta envK
    rw[map_append]
    rfl
   .rw[za9]
    by_cases h:i<ks.length
    .rw[if_pos h];show hat i h
    .have:i=ks.length:=by simp at hi;lia
     rw[if_neg h,if_pos this,this]
     show⟨l,hb,rfl⟩
   .have hi:i<ks.length:=by simp at hi;lia
    rw[za9,if_pos hi]
    by_cases h:i+1<ks.length
    .exact hless i h
    .have:i=ks.length-1:=by lia
     rw[this];show Z
  .rw[decide_eq_false Z]at hc
   have hM:ks.getD (ks.length-1) 0=M:=by lia
   show .inl ⟨hc,U,V,ks,⟨hpos,by lia,hat,fun t k a1=>by let⟨l,hl,e⟩:=a1;rw[hM,<-e];show a3 t l hl.1,fun i hi=>by rw[hM];show hless i hi⟩,rfl⟩
 .have:i=0:=by simp at hi;lia
  subst this
  show⟨l0,a5,rfl⟩
theorem zb7 {i:Nat}{m:ME}{ρ:Ro}{d:D}(h:ρ[i]? =some (some (.sh d))):B3 i m ρ=m ρ:=by delta B3;rw[h]
theorem G3 (η:List Int)(s:Int)(hs:1<=s)(hr:η.length<=300):∃ ks,m_Z6 [RI η,.int s]=some (.fr (ks.map dN))/\Kpt η s ks:=by
 let⟨M,eM,N,Y,I,G⟩:=R8 η s hr
 have i1:0+1<=sizeLine:=w5 (by decide)
 let⟨U,V,e0,i⟩:=g5 hr (zv9 η s)
 let⟨j,O,z⟩:=d6 hr i
 let⟨U',V',ks,Z,ew⟩:=B5 (some (.sh (RI η))) η s hr M N Y I G U V i j z
 show⟨ks,?_,Z⟩
 delta m_Z6 b_Z6
 show yu9 ?_
 show seqI (ρ':=[some (.sh (RI η)),k0c s,none,none,none,none]) (zb4 (g6 (z7 (d:=.int s) rfl y0) (P2 s hs))) ?_
 show seqI (ρ':=[some (.sh (RI η)),k0c s,some (.sh (SP η s)),none,none,none]) ((Y8 ((zb7 (d:=RI η) rfl).trans (yy6 hr rfl rfl))).trans rfl) ?_
 show seqI (ρ':=[some (.sh (RI η)),k0c s,some (.sh (SP η s)),some (.sh (dN M)),none,none]) ((Y8 (g6 (z7 (d:=SP η s) rfl y0) eM)).trans rfl) ?_
 show seqI (ρ':=[some (.sh (RI η)),k0c s,some (.sh (SP η s)),some (.sh (dN M)),some (.sh (TP2 U V)),none]) ((Y8 (g6 (z7 (d:=SP η s) rfl (z7 ((zb7 (d:=RI η) rfl).trans (g6 (z7 (d:=RI η) rfl y0) (zi3 η hr))) y0)) e0)).trans rfl) ?_
 show seqI (ρ':=envK (some (.sh (RI η))) η s M U V [j.length]) (by delta d3;rw[v7 (z7 (xw2 _ U V j rfl O) y0) i1];rfl) ?_
 show seqI ew ?_
 delta yp1
 rfl
end
section
open PySem L2
theorem m7 {m:ME}{ρ:Ro}{d:D}(h:m ρ=some d):mpu m ρ=some (d,ρ):=by delta mpu;rw[h]
theorem c9 {m:ML}{ρ:Ro}{d:List D}(h:m ρ=some d):apu m ρ=some (d,ρ):=by delta apu;rw[h]
theorem f9 {f:D->D->Option D}{x y:MEm}{ρ ρ1 i:Ro}{d e g:D}(h1:x ρ=some (d,ρ1))(h2:y ρ1=some (e,i))(j:f d e=some g):m2m f x y ρ=some (g,i):=by
 delta m2m;rw[h1];simp only;rw[h2];simp only;rw[j]
theorem i6 {x:MEm}{r:MLm}{ρ ρ1 i:Ro}{d:D}{ds:List D}(h1:x ρ=some (d,ρ1))(h2:r ρ1=some (ds,i)):j3 x r ρ=some (d::ds,i):=by
 delta j3;rw[h1];simp only;rw[h2]
theorem yd1 {m:MLm}{ρ ρ1:Ro}{ds:List D}(h:m ρ=some (ds,ρ1))(i:ds.length<=sizeLine):yp8 m ρ=some (.lst ds,ρ1):=by
 delta yp8;rw[h];simp only[i,if_true]
theorem yj7 {f:List D->Option D}{m:MLm}{ρ ρ1:Ro}{ds:List D}{d:D}(h:m ρ=some (ds,ρ1))(h2:f ds=some d):J6 f m ρ=some (d,ρ1):=by
 delta J6;rw[h];simp only;rw[h2]
theorem n9 {i:Nat}{x:MEm}{ρ ρ1:Ro}{d:D}(h:x ρ=some (d,ρ1)):Z6 i x ρ=some (.nx (ρ1.set i (some (.sh d)))):=by delta Z6;rw[h]
theorem Z0 {i:Nat}{x:MEm}{ρ ρ1:Ro}{d:D}{p:Addr}{r:List D}(h:x ρ=some (d,ρ1))(h2:ρ1[i]? =some (some (.ob p r))):U2 i x ρ=some (.rg d p r):=by delta U2;rw[h];simp only;rw[h2]
theorem Q1 {f:MG}{i:Nat}{m:MLm}{ρ ρ1:Ro}{p:Addr}{r0 r1 r2 ds:List D}{t:Rt}{d:D}(G:ρ[i]? =some (some (.ob p r2)))(h1:m ρ=some (ds,ρ1))(h2:ρ1[i]? =some (some (.ob p r0)))(z:f p r0 ds=some (t,r1))(j:rtD t=some d):y8 f i m ρ=some (d,ρ1.set i (some (.ob p r1))):=by
 delta y8;rw[G];simp only;rw[h1];simp only;rw[h2];simp only;rw[z];simp only;rw[j]
theorem f7 {f:MG}{i:Nat}{m:MLm}{ρ ρ1:Ro}{r0 r1 r2 ds:List D}{t:Rt}{d:D}(G:ρ[i]? =some (some (.own r2)))(h1:m ρ=some (ds,ρ1))(h2:ρ1[i]? =some (some (.own r0)))(z:∀ p,f p r0 ds=some (t,r1))(j:rtD t=some d):y8 f i m ρ=some (d,ρ1.set i (some (.own r1))):=by
 delta y8;rw[G];simp only;rw[h1];simp only;rw[h2];simp only;rw[yi5 z];simp only;rw[j]
theorem Z5 {n:Nat}{m:MS}{p:Addr}{r i ds:List D}{d:D}(h:m (R3 n p r ds)=some (.rg d p i)):runG n m p r ds=some (.sh d,i):=by delta runG;rw[h];simp only[if_true]
theorem zd1 {n:Nat}{m:MS}{p:Addr}{r i ds es:List D}(h:m (R3 n p r ds)=some (.rgf es p i)):runG n m p r ds=some (.fr es,i):=by delta runG;rw[h];simp only[if_true]
noncomputable def RL (a b:Int):List D:=[.int a,.int b]
theorem at3 (x y z:Int)(k:Int)(i:0<=k)(h1:k<3):∃ w,atI [D.int x,.int y,.int z] k=some (.int w)/\(w=x\/w=y\/w=z):=by
 have:k=0\/k=1\/k=2:=by lia
 rcases this with h|h|h <;> subst h
 .exact⟨_,rfl,by simp⟩
 .exact⟨_,rfl,by simp⟩
 .exact⟨_,rfl,by simp⟩
end
section
open PySem L2
theorem u9 (c k m:Int)(h:0<m)(h2:m<1073741824):∃ x c' k',0<=x/\x<m/\∀ p,u4 p (RL c k) [.int m]=some (.sh (.int x),RL c' k'):=by
 have hp:((10:Int)^(18:Int).toNat)=10^18:=rfl
 have j:ys0 10 18=true:=by decide
 have O:∀ x y:Int,atI [D.int x,D.int y] 0=some (.int x):=fun _ _=>rfl
 have N:∀ x y:Int,atI [D.int x,D.int y] 1=some (.int y):=fun _ _=>rfl
 have G:ixN (0+1+1) 0=some 0:=rfl
 have z:ixN (0+1+1) 1=some 1:=rfl
 by_cases I:10^18<=c
 .refine⟨c % m,c / m,k+1,Int.emod_nonneg _ (by lia),Int.emod_lt_of_pos _ h,fun p=>?_⟩
  delta u4
  show Z5 ?_
  delta ya3 R3 RL
  simp_arith [hp,j,O,N,I,decide_true,if_true,W4 c m h,A8 c m h h2,G,z,U2,mpu,set_cons_zero,set_cons_succ]
 .have q3:∀ i,zu2 i 2147483647=true:=fun i=>W4 _ _ (by decide)
  have Z:∀ i,zu2 i 2147483629=true:=fun i=>W4 _ _ (by decide)
  have Y:∀ i,zu2 i 2147483587=true:=fun i=>W4 _ _ (by decide)
  have U:∀ i,zu2 i m=true:=fun i=>W4 _ _ h
  have f8:∀ i,zx3 i 8=true:=fun i=>A8 _ _ (by decide) (by decide)
  have m1:∀ i,O1 i 69621=true:=fun i=>C5 _ _ (by decide) (by decide)
  have m2:∀ i,O1 i 7919=true:=fun i=>C5 _ _ (by decide) (by decide)
  have m3:∀ i,O1 i 48271=true:=fun i=>C5 _ _ (by decide) (by decide)
  have m4:∀ i,O1 i 40692=true:=fun i=>C5 _ _ (by decide) (by decide)
  have bb:=zq7 (x:=c*69621+(k+1)*7919+13) (show (0:Int)<2147483647 by decide)
  have m5:O1 ((c*69621+(k+1)*7919+13) % 2147483647) ((c*69621+(k+1)*7919+13) % 2147483647)=true:=yq7 _ _ (by lia) (by lia)
  show⟨_,c,k+1,Int.emod_nonneg _ (by lia),Int.emod_lt_of_pos (((((c*69621+(k+1)*7919+13) % 2147483647)*((c*69621+(k+1)*7919+13) % 2147483647) % 2147483629)*48271+(k+1)*40692) % 2147483587 / 8) h,fun p=>?_⟩
  delta u4
  show Z5 ?_
  delta ya3 R3 RL
  simp_arith [hp,j,O,N,I,decide_false,if_true,q3,Z,Y,U,f8,m1,m2,m3,m4,m5,G,z,U2,mpu,set_cons_zero,set_cons_succ]
noncomputable abbrev Nx (c k m x c' k':Int):Prop:=∀ p,u4 p (RL c k) [.int m]=some (.sh (.int x),RL c' k')
theorem t5 {p:Addr}{c k m x c' k':Int}{e:ME}{tl:List (Option S)}(h:Nx c k m x c' k')(i:e (some (.ob p (RL c k))::tl)=some (.int m)):y8 u4 0 (apu (z5 e anil)) (some (.ob p (RL c k))::tl)=some (.int x,some (.ob p (RL c' k'))::tl):=
 Q1 (ρ:=some (.ob p (RL c k))::tl) rfl (c9 (z7 i y0)) rfl (h p) rfl
theorem zz7 (c k kind:Int):∃ x c' k',∀ p,m_Z1 p (RL c k) [.int kind]=some (.sh (.int x),RL c' k'):=by
 have i2:0+1+1<=sizeLine:=w5 (by decide)
 have i:∀(p:Addr)(j:Int),v3 (m2 eqSD (mvar 1) (mc (.int j))) [some (.ob p (RL c k)),k0c kind]=some (kind==j):=fun p j=>by delta v3 m2;rfl
 by_cases O:kind=0
 .let⟨x,I,G,_,_,e⟩:=u9 c k 4 (by decide) (by decide)
  show⟨x,I,G,fun p=>?_⟩
  delta m_Z1 b_Z1
  show Z5 (h7 (o:=.rg (.int x) p (RL I G)) ?_)
  show mif _ _ _ [some (.ob p (RL c k)),k0c kind]=_
  rw[U4 (i p 0),show (kind==0)=true by rw[O];rfl]
  show Z0 (t5 e rfl) rfl
 .have f0:(kind==0)=false:=beq_eq_false_iff_ne.mpr O
  by_cases h1:kind=1
  .let⟨x,I,G,_,_,e⟩:=u9 c k 21 (by decide) (by decide)
   show⟨x-10,I,G,fun p=>?_⟩
   delta m_Z1 b_Z1
   show Z5 (seqI (ρ':=[some (.ob p (RL c k)),k0c kind]) ?_ (h7 (o:=.rg (.int (x-10)) p (RL I G)) ?_))
   .show mif _ _ _ [some (.ob p (RL c k)),k0c kind]=_
    rw[U4 (i p 0),f0];rfl
   .rw[U4 (i p 1),show (kind==1)=true by rw[h1];rfl]
    show Z0 (f9 (t5 e rfl) (m7 (d:=.int 10) rfl) rfl) rfl
  .have f1:(kind==1)=false:=beq_eq_false_iff_ne.mpr h1
   by_cases h2:kind=2
   .let⟨x,I,G,_,_,e⟩:=u9 c k 1001 (by decide) (by decide)
    show⟨x-500,I,G,fun p=>?_⟩
    delta m_Z1 b_Z1
    show Z5 (seqI (ρ':=[some (.ob p (RL c k)),k0c kind]) ?_ (seqI (ρ':=[some (.ob p (RL c k)),k0c kind]) ?_ (h7 (o:=.rg (.int (x-500)) p (RL I G)) ?_)))
    .show mif _ _ _ [some (.ob p (RL c k)),k0c kind]=_
     rw[U4 (i p 0),f0];rfl
    .rw[U4 (i p 1),f1];rfl
    .rw[U4 (i p 2),show (kind==2)=true by rw[h2];rfl]
     show Z0 (f9 (t5 e rfl) (m7 (d:=.int 500) rfl) rfl) rfl
   .have f2:(kind==2)=false:=beq_eq_false_iff_ne.mpr h2
    let⟨x,I,G,l1,u1,e⟩:=u9 c k 2 (by decide) (by decide)
    let⟨y,c2,Y,l2,u2,e2⟩:=u9 I G 1000 (by decide) (by decide)
    obtain⟨z,hz,Z⟩:∃ z,atI [D.int (-1),.int 1] x=some (.int z)/\(z= -1\/z=1):=by
     have:x=0\/x=1:=by lia
     rcases this with h|h <;> subst h
     .exact⟨_,rfl,by simp⟩
     .exact⟨_,rfl,by simp⟩
    have U:O1 z (100000000000000000000000000000+y)=true:=yq7 _ _ (by lia) (by lia)
    show⟨z*(100000000000000000000000000000+y),c2,Y,fun p=>?_⟩
    delta m_Z1 b_Z1
    show Z5 (seqI (ρ':=[some (.ob p (RL c k)),k0c kind]) ?_ (seqI (ρ':=[some (.ob p (RL c k)),k0c kind]) ?_ (seqI (ρ':=[some (.ob p (RL c k)),k0c kind]) ?_ ?_)))
    .show mif _ _ _ [some (.ob p (RL c k)),k0c kind]=_
     rw[U4 (i p 0),f0];rfl
    .rw[U4 (i p 1),f1];rfl
    .rw[U4 (i p 2),f2];rfl
    .have p29:(10:Int)^(29:Int).toNat=100000000000000000000000000000:=by decide
     have N:ys0 10 29=true:=by decide
     show Z0 (f9 (f9 (m7 (t7 (v7 (z7 (d:=.int (-1)) rfl (z7 (d:=.int 1) rfl y0)) i2))) (t5 e rfl) (g:=.int z) hz) (f9 (m7 (d:=.int 100000000000000000000000000000) ?_) (t5 e2 rfl) (g:=.int (100000000000000000000000000000+y)) rfl) ?_) rfl
     .simp_arith [p29,N,if_true]
     .show (if O1 _ _=true then _ else none)=_
      rw[if_pos U]
end
section
open PySem L2
theorem L8 {src:List (Option Nat)}{G:ML}{i j:Nat}{z:MEm}{ρ ρb:Ro}{rr:Addr}{r0 r1 its out:List D}(N:ρ[i]? =some (some (.ob rr r0)))(h1:G ρ=some its)(h2:c8 z its ((V2 src ρ).set j (some (.own r0))) []=some (out,ρb))(I:ρb[j]? =some (some (.own r1))):R9 src G i j z ρ=some (.lst out,ρ.set i (some (.ob rr r1))):=by
 delta R9
 rw[N];simp only;rw[h1];simp only;rw[h2];simp only;rw[I]
theorem zy8 (kind:Int):∀(its:List Int)(c k:Int)(o:Option S)(acc:List Int),acc.length+its.length<=1000->∃(f:List Int)(c' k':Int)(o':Option S),f.length=acc.length+its.length/\
  c8 (y8 m_Z1 1 (apu (z5 (mvar 2) anil))) (its.map .int) [o,some (.own (RL c k)),k0c kind] (acc.map .int)=some (f.map .int,[o',some (.own (RL c' k')),k0c kind])
 |[],c,k,o,acc,_=>⟨acc,c,k,o,by simp,rfl⟩
 |i::its,c,k,o,acc,h=>by
  let⟨x,z,j,e⟩:=zz7 c k kind
  let⟨f,c',k',o',I,e2⟩:=zy8 kind its z j (k0c i) (acc++[x]) (by simp at h ⊢;lia)
  show⟨f,c',k',o',by rw[I];simp;lia,?_⟩
  rw[map_cons,c8]
  have e3:y8 m_Z1 1 (apu (z5 (mvar 2) anil)) [k0c i,some (.own (RL c k)),k0c kind]=some (.int x,[k0c i,some (.own (RL z j)),k0c kind]):=
   f7 (r0:=RL c k) (r2:=RL c k) rfl (c9 (z7 (d:=.int kind) rfl y0)) rfl e rfl
  show (match y8 m_Z1 1 (apu (z5 (mvar 2) anil)) [k0c i,some (.own (RL c k)),k0c kind]with |some (x,ρ1)=>if (acc.map D.int).length<sizeLine then c8 _ (its.map .int) ρ1 (acc.map D.int++[x])else none|none=>none)=_
  rw[e3]
  have G:(acc.map D.int).length<sizeLine:=by
   have:=n5
   rw[length_map];simp at h;lia
  simp only[G,if_true]
  rw[map_append]at e2
  show e2
theorem ym1 (f:List Int):O2 (f.map .int)=some f:=N8 f
noncomputable def envW (p:Addr)(c k most kind many:Int)(f:List Int)(o5:Option S):Ro:=[some (.ob p (RL c k)),k0c most,k0c kind,k0c many,k0a f,o5]
theorem M6 {p:Addr}{c k i kind many sh j:Int}{f g:List Int}{E:ME}(G:sh=j->E (envW p c k i kind many f (k0c sh))=some (.lst (g.map .int))):
  mif (v3 (m2 eqSD (mvar 5) (mc (.int j)))) (mset 4 E) Y9 (envW p c k i kind many f (k0c sh))=some (.nx (envW p c k i kind many (if sh=j then g else f) (k0c sh))):=by
 have z:v3 (m2 eqSD (mvar 5) (mc (.int j))) (envW p c k i kind many f (k0c sh))=some (sh==j):=by delta v3 m2;rfl
 rw[U4 z]
 by_cases h:sh=j
 .rw[show (sh==j)=true by rw[h];show beq_self_eq_true _,if_pos h]
  show(Y8 (G h)).trans rfl
 .rw[beq_eq_false_iff_ne.mpr h,if_neg h];rfl
theorem zk5 (c k:Int)(j:Nat)(hm:j<200):∃(f:List Int)(c' k':Int),f.length<=j/\∀ p,yc0 p (RL c k) [.int (j:Int)]=some (.sh (.lst (f.map .int)),RL c' k'):=by
 have i2:0+1+1<=sizeLine:=w5 (by decide)
 have i3:0+1+1+1<=sizeLine:=w5 (by decide)
 let⟨kind,c1,k1,_,_,e1⟩:=u9 c k 4 (by decide) (by decide)
 let⟨w,c2,k2,l2,u2,e2⟩:=u9 c1 k1 3 (by decide) (by decide)
 let⟨m,a1,a5⟩:=at3 (min 4 ((j:Int)+1)) (min 9 ((j:Int)+1)) ((j:Int)+1) w l2 u2
 let⟨many,c3,Y,l3,u3,e3⟩:=u9 c2 k2 m (by lia) (by lia)
 let⟨n,rfl⟩:=xg6 l3
 let⟨f,c4,k4,o',hf,e4⟩:=zy8 kind ((List.range n).map fun(i:Nat)=>(i:Int)) c3 Y none [] (by simp;lia)
 let⟨sh,U,O,_,_,e5⟩:=u9 c4 k4 6 (by decide) (by decide)
 have Z:f.length=n:=by simpa using hf
 let I:List Int:=if sh=0 then G4 f else f
 have l1:I.length=n:=by
  show (if sh=0 then G4 f else f).length=n
  split
  .rw[J2,Z]
  .exact Z
 let g2:List Int:=(List.range I.length).map fun(i:Nat)=>I.getD i 0+(if (i:Int) % 2=0 then 7 else -7)
 let N:List Int:=if sh=1 then g2 else I
 have a4:N.length=n:=by
  show (if sh=1 then g2 else I).length=n
  split
  .show (List.map _ (List.range I.length)).length=n
   rw[length_map,length_range,l1]
  .exact l1
 let g3:List Int:=(List.replicate n (N.take 1)).flatten
 let f3:List Int:=if sh=2 then g3 else N
 have a3:f3.length<=n:=by
  show (if sh=2 then g3 else N).length<=n
  split
  .show (List.replicate n (N.take 1)).flatten.length<=n
   rw[length_flatten,map_replicate,sum_replicate_nat,length_take]
   show Nat.le_trans (Nat.mul_le_mul_left n (Nat.min_le_left 1 _)) (by lia)
  .lia
 show⟨f3,U,O,by lia,fun p=>?_⟩
 delta yc0 xo3
 show Z5 ?_
 show seqI (ρ':=[some (.ob p (RL c1 k1)),k0b j,k0c kind,none,none,none]) ((n9 (t5 (tl:=[k0b j,none,none,none,none]) e1 rfl)).trans rfl) ?_
 show seqI (ρ':=[some (.ob p (RL c3 Y)),k0b j,k0c kind,k0b n,none,none]) ?_ ?_
 .have q1:w8 (z5 (X6 yx8 (z5 (mc (.int 4)) (z5 (m2 addD (mvar 1) (mc (.int 1))) anil))) (z5 (X6 yx8 (z5 (mc (.int 9)) (z5 (m2 addD (mvar 1) (mc (.int 1))) anil))) (z5 (m2 addD (mvar 1) (mc (.int 1))) anil))) [some (.ob p (RL c1 k1)),k0b j,k0c kind,none,none,none]=some [.int (min 4 ((j:Int)+1)),.int (min 9 ((j:Int)+1)),.int ((j:Int)+1)]:=by
   simp_arith [xg8,i3,if_true]
  show(n9 (ρ1:=[some (.ob p (RL c3 Y)),k0b j,k0c kind,none,none,none]) (Q1 (ρ1:=[some (.ob p (RL c2 k2)),k0b j,k0c kind,none,none,none]) (p:=p) (r2:=RL c1 k1) rfl (i6 (f9 (m7 (t7 q1)) (t5 (tl:=[k0b j,k0c kind,none,none,none]) e2 rfl) (g:=.int m) a1) (c9 y0)) rfl (e3 p) rfl)).trans rfl
 have kn:okR (n:Int)=true:=Y4 (by lia) (by lia)
 show seqI (ρ':=envW p c4 k4 j kind n f none) ?_ ?_
 .refine(n9 (L8 (ρ:=[some (.ob p (RL c3 Y)),k0b j,k0c kind,k0b n,none,none]) (rr:=p) (r0:=RL c3 Y) (r1:=RL c4 k4) rfl (its:=((List.range n).map fun(i:Nat)=>(i:Int)).map .int) ?_ (out:=f.map .int) (ρb:=[o',some (.own (RL c4 k4)),k0c kind]) e4 rfl)).trans rfl
  delta t9
  rw[z7 (d:=.int (n:Int)) rfl y0,Option.bind_some,P7 kn,Int.toNat_natCast,N1]
 show seqI (ρ':=envW p U O j kind n f (k0c sh)) ((n9 (t5 (tl:=[k0b j,k0c kind,k0b n,k0a f,none]) e5 rfl)).trans rfl) ?_
 show seqI (M6 (g:=G4 f) fun _=>?_) ?_
 .refine t7 ?_
  delta E1
  show (match O2 (f.map D.int)with |some ns=>some ((G4 ns).map D.int)|none=>none)=_
  rw[ym1]
 show mseq _ _ (envW p U O j kind n I (k0c sh))=_
 show seqI (M6 (g:=g2) fun _=>?_) ?_
 .refine t7 ?_
  delta X0
  have ee:t9 zg5 (z5 (mvar 4) anil) (envW p U O j kind n I (k0c sh))=some ((List.range I.length).map fun(i:Nat)=>D.tup [.int (i:Int),.int (I.getD i 0)]):=by
   delta t9
   rw[z7 (x:=mvar 4) (d:=.lst (I.map .int)) rfl y0,Option.bind_some]
   show some (X5 0 (I.map .int))=_
   rw[N9]
   simp only[Nat.zero_add]
  rw[ee,Option.bind_some]
  show(U9 (f:=fun(i:Nat)=>D.tup [.int (i:Int),.int (I.getD i 0)]) (G:=fun(i:Nat)=>D.int (I.getD i 0+(if (i:Int) % 2=0 then 7 else -7))) (fun _ ρ=>∃ x y,ρ=[x,y]) (by
   rintro i ds ρ ⟨x,y,rfl⟩
   show⟨[k0b i,some (.sh (.int (I.getD i 0)))],rfl,rfl,?_,_,_,rfl⟩
   have ix:mix (w8 (z5 (mc (.int 7)) (z5 (m1 negD (mc (.int 7))) anil))) (m2 modD (mvar 0) (mc (.int 2))) [k0b i,some (.sh (.int (I.getD i 0)))]=some (.int (if (i:Int) % 2=0 then 7 else -7)):=by
    show h8 (v7 (z7 (d:=.int 7) rfl (z7 (d:=.int (-7)) rfl y0)) i2) (k:=(i:Int) % 2) ?_ ?_
    .simp_arith [W4 (i:Int) 2 (by decide),if_true]
    .have:=zq7 (x:=(i:Int)) (show (0:Int)<2 by decide)
     have:(i:Int) % 2=0\/(i:Int) % 2=1:=by lia
     rcases this with h|h
     .rw[h];rfl
     .rw[h];rfl
   rw[k7 (a:=.int (I.getD i 0)) rfl ix];rfl) (List.range I.length) _ [] ⟨none,none,rfl⟩ (w5 (by simp;lia))).trans ?_
  rw[nil_append]
  show some _=some (List.map D.int (List.map _ (List.range I.length)))
  rw[map_map]
  rfl
 show mseq _ _ (envW p U O j kind n N (k0c sh))=_
 show seqI (M6 (g:=g3) fun _=>?_) ?_
 .refine t7 ?_
  have ec:mcut (bvar 4) zv7 (G1 (mc (.int 1))) (envW p U O j kind n N (k0c sh))=some ((N.take 1).map .int):=by
   delta mcut
   show some (cutL (N.map D.int) none (some 1))=_
   rw[E8]
   show congrArg (fun z=>some (List.map D.int z)) (yk7 N 1)
  have a2:((N.take 1).map D.int).length<=1:=by rw[length_map,length_take];lia
  have a6:=n5
  rw[zi6 ec (k:=(n:Int)) rfl (by
   delta zk9
   simp only[Bool.and_eq_true,decide_eq_true_eq]
   show⟨⟨by lia,by lia⟩,?_⟩
   rw[Int.toNat_natCast]
   show Nat.le_trans (Nat.mul_le_mul_right n a2) (by lia)),Int.toNat_natCast]
  show some _=some (List.map D.int (List.replicate n (N.take 1)).flatten)
  rw[map_flatten,map_replicate]
 show U2 0 (mpu (mvar 4)) (envW p U O j kind n f3 (k0c sh))=_
 show Z0 (m7 (d:=.lst (f3.map .int)) rfl) rfl
theorem zs7 (c k:Int):∃(s c' k':Int),1<=s/\s<=100000000000000000000000000000/\∀ p,m_Z7 p (RL c k) []=some (.sh (.int s),RL c' k'):=by
 have U:0+1+1+1+1+1<=sizeLine:=w5 (by decide)
 let⟨x,c1,O,l1,u1,e1⟩:=u9 c k 4 (by decide) (by decide)
 let⟨y,Z,N,l2,u2,e2⟩:=u9 c1 O 40 (by decide) (by decide)
 let⟨z,Y,I,l3,u3,e3⟩:=u9 Z N 5 (by decide) (by decide)
 have j:(10:Int)^(29:Int).toNat=100000000000000000000000000000:=by decide
 have G:ys0 10 29=true:=by decide
 obtain⟨s,hs,i⟩:∃ s,atI [D.int 1,.int 1,.int (1+x),.int (1+y),.int 100000000000000000000000000000] z=some (.int s)/\(1<=s/\s<=100000000000000000000000000000):=by
  have:z=0\/z=1\/z=2\/z=3\/z=4:=by lia
  rcases this with h|h|h|h|h <;> subst h <;> show⟨_,rfl,by lia⟩
 show⟨s,Y,I,i.1,i.2,fun p=>?_⟩
 delta m_Z7 b_Z7
 show Z5 (Z0 (f9 (yd1 (i6 (m7 (d:=.int 1) rfl) (i6 (m7 (d:=.int 1) rfl) (i6 (f9 (m7 (d:=.int 1) rfl) (t5 (tl:=[]) e1 rfl) (g:=.int (1+x)) rfl) (i6 (f9 (m7 (d:=.int 1) rfl) (t5 (tl:=[]) e2 rfl) (g:=.int (1+y)) rfl) (c9 (z7 (d:=.int 100000000000000000000000000000) ?_ y0)))))) U) (t5 (tl:=[]) e3 rfl) (g:=.int s) hs) rfl)
 simp_arith [j,G,if_true]
end
section
open PySem L2
theorem Q6 {x:ME}{ρ:Ro}{b:Bool}(h:x ρ=some (.bl b)):v3 x ρ=some b:=by delta v3;rw[h]
theorem zr7:∀(xs:List Int)(o:Option S)(acc:List Int),acc.length+xs.length<=1000->K3 (.nm 0) (w8 (z5 (mvar 0) (z5 (mc (.int 0)) anil))) (xs.map .int) [o] (acc.map fun c=>RL c 0)=some ((acc++xs).map fun c=>RL c 0)
 |[],o,acc,_=>by rw[append_nil];rfl
 |x::xs,o,acc,h=>by
  have i2:0+1+1<=sizeLine:=w5 (by decide)
  have j:=n5
  rw[map_cons,K3]
  show (match w8 (z5 (mvar 0) (z5 (mc (.int 0)) anil)) [k0c x]with |some ds=>if (acc.map fun c=>RL c 0).length<sizeLine then K3 _ _ (xs.map .int) [k0c x] ((acc.map fun c=>RL c 0)++[ds])else none|none=>none)=_
  rw[v7 (z7 (d:=.int x) rfl (z7 (d:=.int 0) rfl y0)) i2]
  have i:(acc.map fun c=>RL c 0).length<sizeLine:=by rw[length_map];simp at h;lia
  simp only[i,if_true]
  have:=zr7 xs (k0c x) (acc++[x]) (by simp at h ⊢;lia)
  rw[map_append,append_assoc]at this
  show this
theorem xu1 (xs:List Int)(h:xs.length<=63):∃ z:List Int,Q8 [.lst (xs.map .int)]=some (z.map fun c=>RL c 0):=by
 delta Q8 runP
 have i2:0+1+1<=sizeLine:=w5 (by decide)
 have j:v3 (m2 eqSD (mlen (bvar 0)) (mc (.int 0))) (u0 1 [.lst (xs.map .int)])=some ((xs.length:Int)==0):=by
  rw[xa0 (i:=(xs.length:Int)) (by rw[W9 (show bvar 0 _=some (xs.map .int)from rfl),length_map])]
 rw[j]
 cases hb:((xs.length:Int)==0)with
 |true=>
  show⟨[0],?_⟩
  show yp9 _ _=_
  delta yp9
  rw[v7 (z7 (d:=.int 0) rfl (z7 (d:=.int 0) rfl y0)) i2]
  rfl
 |false=>
  show⟨cutI xs none (some 63),?_⟩
  show Q0 _ _ _ _ _=_
  delta Q0
  have G:u6 (mlst (mcut (bvar 0) zv7 (G1 (mc (.int 63))))) (u0 1 [.lst (xs.map .int)])=some ((cutI xs none (some 63)).map .int):=by
   show j8 (t7 ?_)
   delta mcut
   show congrArg some (E8 D.int xs none (some 63))
  rw[G,Option.bind_some]
  have:=yz2 xs none (some 63)
  show zr7 (cutI xs none (some 63)) none [] (by simp;lia)
end
section
open PySem L2
noncomputable def Mo (P:List Nat->Prop)(v:Nat):Prop:=(∃ l,P l/\l.length=v)/\∀ l,P l->l.length<=v
theorem Mo.uniq {P:List Nat->Prop}{a b:Nat}(h:Mo P a)(k:Mo P b):a=b:=by
 let⟨⟨l,i,rfl⟩,h⟩:=h
 let⟨⟨m,hm,rfl⟩,k⟩:=k
 show Nat.le_antisymm (k l i) (h m hm)
theorem Mo.iff {P Q:List Nat->Prop}{a:Nat}(h:Mo P a)(e:∀ l,P l↔Q l):Mo Q a:=by
 let⟨⟨l,i,z⟩,h⟩:=h
 show⟨⟨l,(e l).mp i,z⟩,fun m hm=>h m ((e m).mpr hm)⟩
theorem Mo.or {P Q R:List Nat->Prop}{a b:Nat}(h:Mo P a)(k:Mo Q b)(e:∀ l,R l↔P l\/Q l):Mo R (max a b):=by
 let⟨⟨l,j,rfl⟩,h⟩:=h
 let⟨⟨m,hm,rfl⟩,k⟩:=k
 show⟨?_,fun u i=>?_⟩
 .by_cases z:l.length<=m.length
  .exact⟨m,(e m).mpr (.inr hm),by lia⟩
  .exact⟨l,(e l).mpr (.inl j),by lia⟩
 .rcases (e u).mp i with z|z
  .have:=h u z;lia
  .have:=k u z;lia
section
variable {x:Nat->Int}{n:Nat}{s:Int}{t:Nat}{d:Bool}{p:Nat}
noncomputable def FP (x:Nat->Int)(n:Nat)(s:Int)(t:Nat)(d:Bool)(p k:Nat)(l:List Nat):Prop:=FS x n s t d p l/\∀ q m,l=p::q::m->q<k
theorem zh8 {p:Nat}{l:List Nat}(h:Hd p l):∃ m,l=p::m:=h
theorem yb1 (hp:p<n):Mo (FP x n s t d p (p+1)) 1:=by
 show⟨⟨[p],⟨⟨hp,[],rfl⟩,fun q m e=>by cases e⟩,rfl⟩,fun l h=>?_⟩
 let⟨m,rfl⟩:=zh8 h.1.2
 cases m with
 |nil=>simp
 |cons q m=>
  have h1:=h.2 q m rfl
  have h2:p<q:=h.1.1.1
  lia
theorem xe2:∀ l,FP x n s t d p n l↔FS x n s t d p l:=fun l=>by
 show⟨fun h=>h.1,fun h=>⟨h,fun q m e=>?_⟩⟩
 subst e
 rcases h.1.2.2 with z|⟨u,_,z⟩ <;> show z.lt
theorem ym8 {k v:Nat}(h:Mo (FP x n s t d p k) v)(j:¬ far s d (x p) (x k)):Mo (FP x n s t d p (k+1)) v:=by
 show h.iff fun l=>⟨fun z=>⟨z.1,fun q m e=>Nat.lt_succ_of_lt (z.2 q m e)⟩,fun z=>⟨z.1,fun q m e=>?_⟩⟩
 have h1:=z.2 q m e
 have h2:=z.1.1
 rw[e]at h2
 by_cases i:q=k
 .subst i;show absurd h2.2.1 j
 .lia
theorem xe1 {k v w:Nat}(G:p<k)(h:Mo (FP x n s t d p k) v)(I:far s d (x p) (x k))(hw:Mo (FR x n s t d k) w):Mo (FP x n s t d p (k+1)) (max v (1+w)):=by
 show Mo.or h (Q:=fun l=>∃ m,l=p::m/\FR x n s t d k m) ?_ fun l=>⟨fun z=>?_,fun z=>?_⟩
 .let⟨⟨m,hm,rfl⟩,hw⟩:=hw
  show⟨⟨p::m,⟨m,rfl,hm⟩,by simp;lia⟩,?_⟩
  rintro l ⟨i,rfl,j⟩
  have:=hw i j
  simp;lia
 .let⟨m,rfl⟩:=zh8 z.1.2
  cases m with
  |nil=>show .inl ⟨z.1,fun q m e=>by cases e⟩
  |cons q m=>
   have U:=z.2 q m rfl
   by_cases e:q=k
   .subst e
    show .inr ⟨q::m,rfl,z.1.1.2.2,m,rfl⟩
   .exact .inl ⟨z.1,fun O i N=>by ext N;lia⟩
 .rcases z with z|⟨m,rfl,hm⟩
  .exact⟨z.1,fun q m e=>Nat.lt_succ_of_lt (z.2 q m e)⟩
  .let⟨i,rfl⟩:=zh8 hm.2
   show⟨⟨⟨G,I,hm.1⟩,_,rfl⟩,fun q m e=>by ext e;lia⟩
theorem xq3 {a:Nat}(h:Mo (FS x n s 0 d p) a):Mo (FR x n s 0 d p) a:=h.iff fun l=>⟨fun z=>⟨.inl z.1,z.2⟩,fun z=>⟨z.1.resolve_right fun i=>by let⟨u,e,_⟩:=i;lia,z.2⟩⟩
theorem xq4 {a b u:Nat}(h:Mo (FS x n s (u+1) d p) a)(k:Mo (FS x n s u (!d) p) b):Mo (FR x n s (u+1) d p) (max a b):=Mo.or h k fun l=>by
 constructor
 .rintro⟨z|⟨v,e,z⟩,y⟩
  .exact .inl ⟨z,y⟩
  .cases e;show .inr ⟨z,y⟩
 .rintro(z|z)
  .exact⟨.inl z.1,z.2⟩
  .exact⟨.inr ⟨u,rfl,z.1⟩,z.2⟩
end
theorem xy7 (η:List Int)(s:Int)(hr:η.length<=300):∀ t,∃ U V,Few η s t U V
 |0=>⟨_,_,zv9 η s⟩
 |t+1=>by
  let⟨U,V,i⟩:=xy7 η s hr t
  let⟨z,j,_,h⟩:=g5 hr i
  show⟨z,j,h⟩
theorem wy5 {η:List Int}{s:Int}{t k:Nat}(hr:η.length<=300)(h:Mo (Tn (xr η) η.length s t) k):Kt η s t k:=by
 let⟨U,V,j⟩:=xy7 η s hr (t+1)
 let⟨l,_,i⟩:=d6 hr j
 show⟨l,i,Mo.uniq ⟨⟨l,i.1,rfl⟩,fun m hm=>i.len m hm⟩ h⟩
end
section
open PySem L2
section
variable {α:Type}
noncomputable def pick (b:Bool)(w:α×α):α:=if b then w.2 else w.1
noncomputable def putp (b:Bool)(v:α)(w:α×α):α×α:=if b then (w.1,v)else (v,w.2)
theorem yf2 (b c:Bool)(v:α)(w:α×α):pick c (putp b v w)=if c=b then v else pick c w:=by ext b <;> ext c <;> rfl
noncomputable def bit (b:Bool):Int:=if b then 1 else 0
noncomputable def FW (f:α->D)(A:List (α×α)):List Fl:=A.map fun w=>.l [f w.1,f w.2]
noncomputable def DW (f:α->D)(A:List (α×α)):List D:=A.map fun w=>.lst [f w.1,f w.2]
theorem FW_D (f:α->D)(A:List (α×α)):yj1 (.row (FW f A))= .lst (DW f A):=by
 show D.lst ((FW f A).map L2.flD)=_
 delta FW DW
 rw[map_map]
 rfl
theorem FW_S (f:α->D)(A:List (α×α)):(FW f A).map flS=DW f A:=by
 delta FW DW
 rw[map_map]
 rfl
theorem xo5 (f:α->D)(w:α×α)(b:Bool):atI [f w.1,f w.2] (bit b)=some (f (pick b w)):=by ext b <;> rfl
theorem ww0 (f:α->D)(A:List (α×α))(p:Nat)(hp:p<A.length)(i:α×α):atI (DW f A) (p:Int)=some (.lst [f (A.getD p i).1,f (A.getD p i).2]):=by
 have:=zt7 (fun w:α×α=>D.lst [f w.1,f w.2]) A (p:Int) (by lia) (by lia) i
 rw[Int.toNat_natCast]at this
 show this
theorem yn9 {f:α->D}{A:List (α×α)}{m:ML}{i j:ME}{ρ:Ro}{p:Nat}{b:Bool}(z:α×α)(h1:m ρ=some (DW f A))(h2:i ρ=some (.int (p:Int)))(G:j ρ=some (.int (bit b)))(hp:p<A.length):mix (u6 (mix m i)) j ρ=some (f (pick b (A.getD p z))):=
 h8 (j8 (h8 h1 h2 (ww0 f A p hp z))) G (xo5 f _ b)
theorem xb2 {f:α->D}{A:List (α×α)}{p:Nat}(i:α×α)(hp:p<A.length):(FW f A)[p]? =some (.l [f (A.getD p i).1,f (A.getD p i).2]):=by
 delta FW
 rw[getElem?_map,getD_eq_getElem?_getD,getElem?_eq_getElem hp]
 rfl
theorem xb1 {f:α->D}{A:List (α×α)}:(FW f A).length=A.length:=by delta FW;simp
theorem xf9 (n p:Nat)(h:p<n):ixN n (p:Int)=some p:=by
 have:=xf8 (n:=n) (k:=(p:Int)) (by lia) (by lia)
 rw[this,Int.toNat_natCast]
theorem xw7 {f:α->D}{A:List (α×α)}{p:Nat}{b:Bool}{v:α}(i:α×α)(hp:p<A.length):setR (p:Int) (bit b) (f v) (FW f A)=some (FW f (A.set p (putp b v (A.getD p i)))):=by
 delta setR
 rw[xb1,xf9 _ _ hp]
 simp only
 rw[xb2 i hp]
 have e:∀ w:α×α,(match ixN [f w.1,f w.2].length (bit b)with |some m=>some ((FW f A).set p (.l ([f w.1,f w.2].set m (f v))))|none=>none)=some (FW f (A.set p (putp b v w))):=fun w=>by
  delta FW
  rw[map_set]
  ext b <;> rfl
 show e _
theorem ye8 {f:α->D}{A:List (α×α)}{i:Nat}{z j:ME}{g:Ro->Bx->Option D}{ρ:Ro}{β:Bx}{y:Addr}{p:Nat}{b:Bool}{v:α}(G:α×α)(I:g ρ β=some (f v))(hi:ρ[i]? =some (some (.sh (.ptr y))))(N:β.lookup y=some (.row (FW f A)))(h2:z ρ=some (.int (p:Int)))(O:j ρ=some (.int (bit b)))(hp:p<A.length):yq9 i z j g ρ β=some (.nx ρ,updB y (.row (FW f (A.set p (putp b v (A.getD p G))))) β):=by
 delta yq9
 simp only[I,hi,h2,O,N]
 rw[xw7 G hp]
 rfl
theorem za7 {A:List (α×α)}{p q:Nat}{b c:Bool}{v:α}(i:α×α)(hp:p<A.length):pick c ((A.set p (putp b v (A.getD p i))).getD q i)=if q=p/\c=b then v else pick c (A.getD q i):=by
 rw[getD_eq_getElem?_getD,getElem?_set]
 by_cases h:p=q
 .subst h
  rw[if_pos rfl,if_pos hp]
  show pick c (putp b v (A.getD p i))=_
  rw[yf2]
  simp
 .rw[if_neg h,if_neg (fun z=>h z.1.symm),getD_eq_getElem?_getD]
end
theorem seqW {x y:MW}{ρ ρ':Ro}{β i:Bx}{r:Option (Out×Bx)}(h:x ρ β=some (.nx ρ',i))(h2:y ρ' i=r):G2 x y ρ β=r:=by
 delta G2;rw[h];show h2
theorem yh4 {m:MS}{ρ ρ':Ro}{β:Bx}(h:m ρ=some (.nx ρ')):wS m ρ β=some (.nx ρ',β):=by delta wS;rw[h]
theorem xy2 {c:Ro->Bx->Option Bool}{x y:MW}{ρ:Ro}{β:Bx}(h:c ρ β=some false):mifW c x y ρ β=y ρ β:=by delta mifW;rw[h]
theorem xy1 {c:Ro->Bx->Option Bool}{x y:MW}{ρ:Ro}{β:Bx}(h:c ρ β=some true):mifW c x y ρ β=x ρ β:=by delta mifW;rw[h]
theorem xs5 (b:Bool):(1:Int)-bit b=bit (!b):=by ext b <;> rfl
theorem A3 {α:Type}{f:α->D}{g:Tg}{body:MW}{d:α}{ds:List α}{ρ ρ1 i:Ro}{β j:Bx}{r:Option (Out×Bx)}(h1:tgD g (f d) ρ=some ρ1)(h2:body ρ1 β=some (.nx i,j))(z:forW g body (ds.map f) i j=r):forW g body ((d::ds).map f) ρ β=r:=by
 rw[map_cons,forW,h1]
 simp only
 rw[h2]
 show z
theorem xj1 {a b:ME}{ρ:Ro}{i j:Nat}(h1:a ρ=some (.int (i:Int)))(h2:b ρ=some (.int (j:Int)))(hi:i<=1000)(z:j<=1000):t9 rng2 (z5 a (z5 b anil)) ρ=some (((List.range (j-i)).map (i+·)).map dN):=by
 delta t9
 rw[z7 h1 (z7 h2 y0),Option.bind_some,zk8 (Y4 (by lia) (by lia)) (Y4 (by lia) (by lia)),M7,map_map,show ((j:Int)-(i:Int)).toNat=j-i by lia]
 rfl
theorem zu4 {i:ML}{g:Tg}{body:MW}{ρ:Ro}{β:Bx}{its:List D}{r:Option (Out×Bx)}(h:i ρ=some its)(h2:forW g body its ρ β=r):zi8 i g body ρ β=r:=by
 delta zi8;rw[h];show h2
theorem yz3 (d:D)(m:ME)(hm:∀ ρ,m ρ=some d):∀(is:List Int)(o:Option S)(acc:List (List D)),acc.length+is.length<=1000->K3 (.nm 0) (w8 (z5 m (z5 m anil))) (is.map .int) [o] acc=some (acc++List.replicate is.length [d,d])
 |[],o,acc,_=>by simp[K3]
 |i::is,o,acc,h=>by
  have i2:0+1+1<=sizeLine:=w5 (by decide)
  have j:=n5
  rw[map_cons,K3]
  have e1:tgD (.nm 0) (.int i) [o]=some [k0c i]:=rfl
  rw[e1]
  simp only
  rw[v7 (z7 (hm _) (z7 (hm _) y0)) i2]
  simp only
  rw[if_pos (by simp at h;lia),yz3 d m hm is _ _ (by simp at h ⊢;lia)]
  simp[replicate_succ]
theorem yb9 (d:D)(m:ME)(hm:∀ ρ,m ρ=some d)(ns:List Int)(hn:ns.length<=300){ρ:Ro}(h:mvar 0 ρ=some (RI ns)):Q0 [none] (u6 (mvar 0)) (.nm 0) (w8 (z5 m (z5 m anil))) ρ=some (List.replicate ns.length [d,d]):=by
 delta Q0
 rw[j8 h,Option.bind_some]
 show K3 (.nm 0) _ _ [none] []=_
 rw[yz3 d m hm ns none [] (by simp;lia),nil_append]
end
section
open PySem L2
noncomputable abbrev PW:=List (Nat×Nat)
noncomputable abbrev TbD (A:PW):D:=.lst (DW dN A)
noncomputable def eQ (η:List Int)(s:Int)(T:Nat)(Ts:List PW)(o4 o5 o6 o7 o8 o9:Option S):Ro:=[some (.sh (RI η)),k0c s,some (.sh (dN T)),some (.own (Ts.map TbD)),o4,o5,o6,o7,o8,o9]
noncomputable abbrev MF' (η:List Int)(s:Int)(u:Nat)(d:Bool)(q v:Nat):Prop:=Mo (FS (xr η) η.length s u d q) v
structure Tb (η:List Int)(s:Int)(u:Nat)(A:PW):Prop where
 len:A.length=η.length
 at':∀ q,q<η.length->∀ d,MF' η s u d q (pick (!d) (A.getD q (1,1)))
structure Inr (η:List Int)(s:Int)(u p k:Nat)(A:PW):Prop where
 len:A.length=η.length
 behind:∀ q,p<q->q<η.length->∀ d,MF' η s u d q (pick (!d) (A.getD q (1,1)))
 here:∀ d,Mo (FP (xr η) η.length s u d p k) (pick (!d) (A.getD p (1,1)))
 yet:∀ q,q<p->A.getD q (1,1)=(1,1)
noncomputable def Pv (η:List Int)(s:Int)(u:Nat)(Ts:List PW):Prop:=∀ v,u=v+1->∃ R B,Ts=R++[B]/\Tb η s v B
theorem yu1 {ρ:Ro}{β:Bx}{i:Nat}{y:Option S}(h:ρ[i]? =some y):(thaw ρ β)[i]? =some (D3 β y):=by delta thaw;rw[getElem?_map,h];rfl
theorem C4 {ρ:Ro}{β:Bx}{i:Nat}{d:D}(h:ρ[i]? =some (some (.sh d)))(hd:D3 β (some (.sh d))=some (.sh d)):mvar i (thaw ρ β)=some d:=by
 delta mvar;rw[yu1 h,hd]
theorem yj8 {ρ:Ro}{β:Bx}{i:Nat}{y:Addr}{A:PW}(h:ρ[i]? =some (some (.sh (.ptr y))))(j:β.lookup y=some (.row (FW dN A))):bvar i (thaw ρ β)=some (DW dN A):=by
 delta bvar
 rw[yu1 h,show D3 β (some (.sh (.ptr y)))=some (.sh (yj1 (.row (FW dN A))))by delta D3;simp only;rw[j],FW_D]
theorem zp6 {m:ME}{ρ:Ro}{β:Bx}{v:Int}(h:m (thaw ρ β)=some (.int v)):zu9 m ρ β=some (.int v):=by delta zu9;rw[h];rfl
theorem xw6 {i:Nat}{x:Ro->Bx->Option D}{ρ:Ro}{β:Bx}{d:D}(h:x ρ β=some d):zi5 i x ρ β=some (.nx (ρ.set i (some (.sh d))),β):=by delta zi5;rw[h];rfl
theorem yo7 {m:ML}{ρ:Ro}{a b:Nat}(h:m ρ=some [dN a,dN b]):X6 zh3 m ρ=some (dN (max a b)):=by
 delta X6
 rw[h]
 show some (D.int (if (b:Int)>(a:Int)then (b:Int)else (a:Int)))=_
 delta dN
 congr 2
 split <;> lia
theorem za0 (y:Addr)(c:Cell)(β:Bx):List.lookup y ((y,c)::β)=some c:=by rw[lookup_cons,beq_self_eq_true]
theorem xb6 (y:Addr)(c c':Cell)(β:Bx):updB y c' ((y,c)::β)=(y,c')::β:=by unfold updB;rw[if_pos rfl]
theorem yb3 {s a b:Int}(hs:1<=s):(far s (!decide (b<a)) a b↔s<=((b-a).natAbs:Int))/\¬ far s (decide (b<a)) a b:=by
 by_cases h:b<a
 .rw[decide_eq_true h]
  delta far
  simp only[Bool.not_true,Bool.false_eq_true,if_false,if_true]
  constructor
  .lia
  .lia
 .rw[decide_eq_false h]
  delta far
  simp only[Bool.not_false,Bool.false_eq_true,if_false,if_true]
  constructor
  .lia
  .lia
theorem xn0 (z:Int):(if z<0 then -z else z)=(z.natAbs:Int):=by split <;> lia
theorem wx8 (η:List Int)(s:Int)(hs:1<=s)(hr:η.length<=300)(T u p k:Nat)(Ts:List PW)(A:PW)(hp:p<k)(G:k<η.length)(pv:Pv η s u Ts)(I:Inr η s u p k A)(o8 o9:Option S):
  ∃ A' p8 j,Inr η s u p (k+1) A'/\∀ y,i4 (eQ η s T Ts (some (.sh (dN u))) (some (.sh (.ptr y))) (some (.sh (dN p))) (some (.sh (dN k))) o8 o9) [(y,.row (FW dN A))]=some (.nx (eQ η s T Ts (some (.sh (dN u))) (some (.sh (.ptr y))) (some (.sh (dN p))) (some (.sh (dN k))) p8 j),[(y,.row (FW dN A'))]):=by
 obtain⟨b,hb⟩:∃ b,b=decide (xr η k<xr η p):=⟨_,rfl⟩
 let⟨Y,U⟩:=yb3 (a:=xr η p) (b:=xr η k) hs
 rw[<-hb]at Y U
 have lA:=I.len
 have ak:∀ o5 o8 o9,mix (bvar 0) (mvar 7) (eQ η s T Ts (some (.sh (dN u))) o5 (some (.sh (dN p))) (some (.sh (dN k))) o8 o9)=some (.int (xr η k)):=fun o5 o8 o9=>h8 (m:=bvar 0) rfl rfl (zm3 η k G)
 have ap:∀ o5 o8 o9,mix (bvar 0) (mvar 6) (eQ η s T Ts (some (.sh (dN u))) o5 (some (.sh (dN p))) (some (.sh (dN k))) o8 o9)=some (.int (xr η p)):=fun o5 o8 o9=>h8 (m:=bvar 0) rfl rfl (zm3 η p (by lia))
 have e8:∀ y,wS (mset 8 (X6 intF (z5 (m2 ltD (mix (bvar 0) (mvar 7)) (mix (bvar 0) (mvar 6))) anil))) (eQ η s T Ts (some (.sh (dN u))) (some (.sh (.ptr y))) (some (.sh (dN p))) (some (.sh (dN k))) o8 o9) [(y,.row (FW dN A))]=some (.nx (eQ η s T Ts (some (.sh (dN u))) (some (.sh (.ptr y))) (some (.sh (dN p))) (some (.sh (dN k))) (some (.sh (.int (bit b)))) o9),[(y,.row (FW dN A))]):=fun y=>by
  show yh4 ((Y8 (d:=.int (bit b)) ?_).trans rfl)
  delta X6
  rw[z7 ((k7 (ak _ _ _) (ap _ _ _)).trans (show ltD (.int (xr η k)) (.int (xr η p))=some (.bl (decide (xr η k<xr η p)))from rfl)) y0,<-hb]
  ext b <;> rfl
 have et:∀ y,wE (v3 (m2 geD (X6 absF (z5 (m2 subD (mix (bvar 0) (mvar 7)) (mix (bvar 0) (mvar 6))) anil)) (mvar 1))) (eQ η s T Ts (some (.sh (dN u))) (some (.sh (.ptr y))) (some (.sh (dN p))) (some (.sh (dN k))) (some (.sh (.int (bit b)))) o9) [(y,.row (FW dN A))]=some (decide (s<=((xr η k-xr η p).natAbs:Int))):=fun y=>by
  show zs4 ?_ rfl
  delta X6
  rw[z7 ((k7 (ak _ _ _) (ap _ _ _)).trans (show subD (.int (xr η k)) (.int (xr η p))=some (.int (xr η k-xr η p))from rfl)) y0]
  show some (D.int (if xr η k-xr η p<0 then -(xr η k-xr η p)else xr η k-xr η p))=_
  rw[xn0]
 by_cases N:s<=((xr η k-xr η p).natAbs:Int)
 .have far1:=Y.mpr N
  obtain⟨w,j,hw,Z⟩:∃(w:Nat)(j:Option S),Mo (FR (xr η) η.length s u (!b) k) w/\j=some (.sh (dN w))/\∀(y:Addr)(rest:MW),G2 (zi5 9 (zu9 (mix (u6 (mix (bvar 5) (mvar 7))) (mvar 8)))) (G2 (mifW (wE (v3 (m2 gtD (mvar 4) (mc (.int 0))))) (wS (mset 9 (X6 zh3 (z5 (mvar 9) (z5 (mix (u6 (mix (u6 (mix (bvar 3) (m1 negD (mc (.int 1))))) (mvar 7))) (m2 subD (mc (.int 1)) (mvar 8))) anil))))) (wS Y9)) rest) (eQ η s T Ts (some (.sh (dN u))) (some (.sh (.ptr y))) (some (.sh (dN p))) (some (.sh (dN k))) (some (.sh (.int (bit b)))) o9) [(y,.row (FW dN A))]=rest (eQ η s T Ts (some (.sh (dN u))) (some (.sh (.ptr y))) (some (.sh (dN p))) (some (.sh (dN k))) (some (.sh (.int (bit b)))) j) [(y,.row (FW dN A))]:=by
   obtain⟨a,ha⟩:∃ a,a=pick b (A.getD k (1,1)):=⟨_,rfl⟩
   have ma:Mo (FS (xr η) η.length s u (!b) k) a:=by
    have:=I.behind k hp G (!b)
    rw[Bool.not_not,<-ha]at this
    show this
   have e9:∀(y:Addr),zi5 9 (zu9 (mix (u6 (mix (bvar 5) (mvar 7))) (mvar 8))) (eQ η s T Ts (some (.sh (dN u))) (some (.sh (.ptr y))) (some (.sh (dN p))) (some (.sh (dN k))) (some (.sh (.int (bit b)))) o9) [(y,.row (FW dN A))]=some (.nx (eQ η s T Ts (some (.sh (dN u))) (some (.sh (.ptr y))) (some (.sh (dN p))) (some (.sh (dN k))) (some (.sh (.int (bit b)))) (some (.sh (dN a)))),[(y,.row (FW dN A))]):=fun y=>by
    show(xw6 (d:=dN a) (zp6 ?_)).trans rfl
    rw[yn9 (f:=dN) (A:=A) (p:=k) (b:=b) (1,1) (yj8 (i:=5) (y:=y) rfl (za0 ..)) (C4 (i:=7) (d:=dN k) rfl rfl) (C4 (i:=8) (d:=.int (bit b)) rfl rfl) (by lia),<-ha]
    rfl
   have tu:∀(y:Addr) β,wE (v3 (m2 gtD (mvar 4) (mc (.int 0)))) (eQ η s T Ts (some (.sh (dN u))) (some (.sh (.ptr y))) (some (.sh (dN p))) (some (.sh (dN k))) (some (.sh (.int (bit b)))) (some (.sh (dN a)))) β=some (decide ((u:Int)>0)):=fun y β=>Q6 ((k7 (a:=.int (u:Int)) (b:=.int 0) rfl rfl).trans rfl)
   cases u with
   |zero=>
    show⟨a,_,xq3 ma,rfl,fun y rest=>?_⟩
    show seqW (e9 y) (seqW ((xy2 (tu y _)).trans rfl) rfl)
   |succ v=>
    let⟨R,B,eT,tb⟩:=pv v rfl
    obtain⟨c,hc⟩:∃ c,c=pick (!b) (B.getD k (1,1)):=⟨_,rfl⟩
    have O:Mo (FS (xr η) η.length s v (!!b) k) c:=by
     have:=tb.at' k G b
     rw[<-hc]at this
     rw[Bool.not_not]
     show this
    show⟨max a c,_,xq4 ma O,rfl,fun y rest=>?_⟩
    have tt:wE (v3 (m2 gtD (mvar 4) (mc (.int 0)))) (eQ η s T Ts (some (.sh (dN (v+1)))) (some (.sh (.ptr y))) (some (.sh (dN p))) (some (.sh (dN k))) (some (.sh (.int (bit b)))) (some (.sh (dN a)))) [(y,.row (FW dN A))]=some true:=by
     rw[tu y,decide_eq_true (by lia)]
    show seqW (e9 y) (seqW ((xy1 tt).trans (yh4 ((Y8 (yo7 (a:=a) (b:=c) (z7 rfl (z7 ?_ y0)))).trans rfl))) rfl)
    rw[yn9 (f:=dN) (A:=B) (p:=k) (b:=!b) (1,1) (m:=u6 (mix (bvar 3) (m1 negD (mc (.int 1))))) (j8 (h8 (m:=bvar 3) (ds:=Ts.map TbD) (k:=-1) rfl rfl (d:=TbD B) (by rw[eT];show atI_last TbD R B))) rfl ((k7 (a:=.int 1) (b:=.int (bit b)) rfl rfl).trans (congrArg (fun z=>some (D.int z)) (xs5 b))) (by rw[tb.len];show G),<-hc]
  let⟨rfl,Z⟩:=Z
  obtain⟨v,hv⟩:∃ v,v=pick b (A.getD p (1,1)):=⟨_,rfl⟩
  show⟨A.set p (putp b (max v (1+w)) (A.getD p (1,1))),some (.sh (.int (bit b))),some (.sh (dN w)),⟨by rw[length_set];show lA,fun q h1 h2 d=>?_,fun d=>?_,fun q hq=>?_⟩,fun y=>?_⟩
  .rw[za7 (1,1) (by lia),if_neg (by lia)]
   show I.behind q h1 h2 d
  .rw[za7 (1,1) (by lia)]
   by_cases hd:(!d)=b
   .rw[if_pos ⟨rfl,hd⟩,<-Bool.not_not d,hd,hv]
    have h0:=I.here (!b)
    rw[Bool.not_not]at h0
    show xe1 hp h0 far1 hw
   .rw[if_neg fun z=>hd z.2]
    have:d=b:=by ext d <;> ext b <;> simp_all
    subst this
    show ym8 (I.here d) U
  .rw[getD_eq_getElem?_getD,getElem?_set_ne (by lia),<-getD_eq_getElem?_getD]
   show I.yet q hq
  .delta i4
   show seqW (e8 y) ?_
   rw[xy1 ((et y).trans (by rw[decide_eq_true N])),Z y]
   have eg:zu9 (X6 zh3 (z5 (mix (u6 (mix (bvar 5) (mvar 6))) (mvar 8)) (z5 (m2 addD (mc (.int 1)) (mvar 9)) anil))) (eQ η s T Ts (some (.sh (dN u))) (some (.sh (.ptr y))) (some (.sh (dN p))) (some (.sh (dN k))) (some (.sh (.int (bit b)))) (some (.sh (dN w)))) [(y,.row (FW dN A))]=some (dN (max v (1+w))):=by
    show zp6 (yo7 (z7 ?_ (z7 ?_ y0)))
    .rw[yn9 (f:=dN) (A:=A) (p:=p) (b:=b) (1,1) (yj8 (i:=5) (y:=y) rfl (za0 ..)) (C4 (i:=6) (d:=dN p) rfl rfl) (C4 (i:=8) (d:=.int (bit b)) rfl rfl) (by lia),<-hv]
    .refine(k7 (a:=.int 1) (b:=dN w) rfl (C4 (i:=9) (d:=dN w) rfl rfl)).trans ?_
     show some (D.int (1+(w:Int)))=some (D.int ((1+w:Nat):Int))
     congr 2
   rw[ye8 (f:=dN) (A:=A) (p:=p) (b:=b) (y:=y) (v:=max v (1+w)) (1,1) eg rfl (za0 ..) rfl rfl (by lia),xb6]
 .have nf:¬ far s (!b) (xr η p) (xr η k):=fun z=>N (Y.mp z)
  show⟨A,some (.sh (.int (bit b))),o9,⟨lA,I.behind,fun d=>?_,I.yet⟩,fun y=>?_⟩
  .refine ym8 (I.here d) ?_
   by_cases hd:d=b
   .rw[hd];show U
   .have:d= !b:=by ext d <;> ext b <;> simp_all
    rw[this];show nf
  .delta i4
   show seqW (e8 y) ?_
   rw[xy2 ((et y).trans (by rw[decide_eq_false N]))]
   rfl
end
section
open PySem L2
section
variable (η:List Int)(s:Int)(hs:1<=s)(hr:η.length<=300)(T u:Nat)(Ts:List PW)(pv:Pv η s u Ts)
include hs hr pv
theorem za6 (p:Nat):∀(j k:Nat)(A:PW)(o7 o8 o9:Option S),p<k->k+j=η.length->Inr η s u p k A->
  ∃ O N G i,Inr η s u p η.length O/\∀ y,forW (.nm 7) i4 (((List.range j).map (k+·)).map dN) (eQ η s T Ts (some (.sh (dN u))) (some (.sh (.ptr y))) (some (.sh (dN p))) o7 o8 o9) [(y,.row (FW dN A))]=some (.nx (eQ η s T Ts (some (.sh (dN u))) (some (.sh (.ptr y))) (some (.sh (dN p))) N G i),[(y,.row (FW dN O))])
 |0,k,A,o7,o8,o9,hp,hk,I=>⟨A,o7,o8,o9,by rw[<-hk];show I,fun y=>rfl⟩
 |j+1,k,A,o7,o8,o9,hp,hk,I=>by
  let⟨A1,Y,U,I1,e1⟩:=wx8 η s hs hr T u p k Ts A hp (by lia) pv I o8 o9
  let⟨A2,N,G,i,Z,e2⟩:=za6 p j (k+1) A1 (some (.sh (dN k))) Y U (by lia) (by lia) I1
  show⟨A2,N,G,i,Z,fun y=>?_⟩
  rw[range_succ_eq_map,map_cons,map_map,show ((k+·)∘Nat.succ:Nat->Nat)=(k+1+·)by funext z;simp only[Function.comp,Nat.succ_eq_add_one];lia,Nat.add_zero]
  show A3 (ρ1:=eQ η s T Ts (some (.sh (dN u))) (some (.sh (.ptr y))) (some (.sh (dN p))) (some (.sh (dN k))) o8 o9) rfl (e1 y) (e2 y)
theorem wx7 (p:Nat)(hp:p<η.length)(A:PW)(o7 o8 o9:Option S)(I:Inr η s u p (p+1) A):
  ∃ z O N G,Inr η s u p η.length z/\∀ y,c6 (eQ η s T Ts (some (.sh (dN u))) (some (.sh (.ptr y))) (some (.sh (dN p))) o7 o8 o9) [(y,.row (FW dN A))]=some (.nx (eQ η s T Ts (some (.sh (dN u))) (some (.sh (.ptr y))) (some (.sh (dN p))) O N G),[(y,.row (FW dN z))]):=by
 let⟨z,O,N,G,U,e⟩:=za6 η s hs hr T u Ts pv p (η.length-(p+1)) (p+1) A o7 o8 o9 (by lia) (by lia) I
 show⟨z,O,N,G,U,fun y=>?_⟩
 delta c6
 show zu4 (xj1 (i:=p+1) (j:=η.length) ?_ ?_ (by lia) (by lia)) (e y)
 .exact(k7 (a:=dN p) (b:=.int 1) rfl rfl).trans rfl
 .rw[W9 (show bvar 0 _=some (η.map .int)from rfl),length_map]
theorem yc8 {p:Nat}{A:PW}(hp:p+1<η.length+1)(I:∀ q,p+1<=q->q<η.length->∀ d,MF' η s u d q (pick (!d) (A.getD q (1,1))))(j:A.length=η.length)(i:∀ q,q<p+1->A.getD q (1,1)=(1,1)):Inr η s u p (p+1) A:=
 ⟨j,fun q h1 h2 d=>I q (by lia) h2 d,fun d=>by rw[i p (by lia)];ext d <;> show yb1 (by lia),fun q z=>i q (by lia)⟩
theorem zc6:∀(p:Nat)(A:PW)(o6 o7 o8 o9:Option S),p<=η.length->A.length=η.length->(∀ q,p<=q->q<η.length->∀ d,MF' η s u d q (pick (!d) (A.getD q (1,1))))->(∀ q,q<p->A.getD q (1,1)=(1,1))->
  ∃ U O N I G,Tb η s u U/\∀ y,forW (.nm 6) c6 (((List.range p).map fun j=>p-1-j).map dN) (eQ η s T Ts (some (.sh (dN u))) (some (.sh (.ptr y))) o6 o7 o8 o9) [(y,.row (FW dN A))]=some (.nx (eQ η s T Ts (some (.sh (dN u))) (some (.sh (.ptr y))) O N I G),[(y,.row (FW dN U))])
 |0,A,o6,o7,o8,o9,hp,hl,hd,hy=>⟨A,o6,o7,o8,o9,⟨hl,fun q hq d=>hd q (Nat.zero_le _) hq d⟩,fun y=>rfl⟩
 |p+1,A,o6,o7,o8,o9,hp,hl,hd,hy=>by
  let⟨A1,q7,q8,Z,i,e1⟩:=wx7 η s hs hr T u Ts pv p (by lia) A o7 o8 o9 (yc8 η s hs hr u Ts pv (by lia) hd hl hy)
  let⟨A2,O,N,I,G,Y,e2⟩:=zc6 p A1 (some (.sh (dN p))) q7 q8 Z (by lia) i.len (fun q h1 h2 d=>by
   by_cases z:q=p
   .subst z;show(i.here d).iff xe2
   .exact i.behind q (by lia) h2 d) i.yet
  show⟨A2,O,N,I,G,Y,fun y=>?_⟩
  rw[range_succ_eq_map,map_cons,map_map,show ((fun j=>p+1-1-j)∘Nat.succ:Nat->Nat)=(fun j=>p-1-j)by funext z;simp only[Function.comp,Nat.succ_eq_add_one];lia,show p+1-1-0=p by lia]
  show A3 (ρ1:=eQ η s T Ts (some (.sh (dN u))) (some (.sh (.ptr y))) (some (.sh (dN p))) o7 o8 o9) rfl (e1 y) (e2 y)
end
end
section
open PySem L2
theorem yt1 (n:Nat)(h:n<=900):rng3 [.int ((n:Int)-1),.int (-1),.int (-1)]=some (K2 n):=by
 delta rng3
 dsimp only
 rw[if_pos ⟨by lia,by lia,rfl,rfl⟩,show (((n:Int)-1)+1).toNat=n by lia]
theorem xp0 (n:Nat):K2 n=((List.range n).map fun j=>n-1-j).map dN:=by
 delta K2 dN
 rw[map_map]
 show map_congr_left fun i hi=>?_
 have:=List.mem_range.mp hi
 show D.int ((n:Int)-1-(i:Int))=D.int ((n-1-i:Nat):Int)
 congr 1
 lia
theorem setF_nil {i:Nat}{ρ:Ro}:d3 i (w8 anil) ρ=some (.nx (ρ.set i (some (.own [])))):=by delta d3;rw[v7 y0 (Nat.zero_le _)];rfl
theorem ys2 {n:Nat}{m:MW}{ds es:List D}{β:Bx}(h:m (u0 n ds) []=some (.rf es,β)):plainW (runW n m) ds=some (.fr es):=by
 delta plainW runW
 rw[h]
theorem xa7 (T:Nat)(z:T<=310){x:ME}{ρ:Ro}(h:x ρ=some (dN T)):t9 rng1 (z5 (m2 addD x (mc (.int 1))) anil) ρ=some (((List.range (T+1)).map (0+·)).map dN):=by
 have j:okR ((T:Int)+1)=true:=Y4 (by lia) (by lia)
 delta t9
 rw[z7 (d:=.int ((T:Int)+1)) ((k7 h (b:=.int 1) rfl).trans rfl) y0,Option.bind_some,P7 j,show ((T:Int)+1).toNat=T+1 by lia,N1,map_map,map_map]
 show congrArg some (map_congr_left fun i _=>?_)
 simp only[Function.comp,Nat.zero_add]
 rfl
theorem xj2 (n q:Nat):(List.replicate n ((1,1):Nat×Nat)).getD q (1,1)=(1,1):=by
 rw[getD_eq_getElem?_getD,getElem?_replicate]
 split <;> rfl
theorem xj3 (n:Nat):(List.replicate n [D.int 1,D.int 1]).map Fl.l=FW dN (List.replicate n (1,1)):=by
 delta FW
 rw[map_replicate,map_replicate]
 rfl
noncomputable def AllT (η:List Int)(s:Int)(Ts:List PW):Prop:=∀ t,t<Ts.length->Tb η s t (Ts.getD t [])
theorem xo8 {η:List Int}{s:Int}{Ts:List PW}(h:AllT η s Ts):Pv η s Ts.length Ts:=fun v e=>by
 rcases eq_nil_or_concat Ts with z|⟨R,B,z⟩
 .rw[z]at e;ext e
 .rw[concat_eq_append]at z
  show⟨R,B,z,?_⟩
  have i:v=R.length:=by rw[z]at e;simp at e;lia
  have:=h v (by lia)
  rw[z,getD_eq_getElem?_getD,i,getElem?_append_right (Nat.le_refl _),Nat.sub_self]at this
  rw[i]
  show this
theorem yi7 {η:List Int}{s:Int}{Ts:List PW}{A:PW}(h:AllT η s Ts)(j:Tb η s Ts.length A):AllT η s (Ts++[A]):=fun t i=>by
 rw[getD_eq_getElem?_getD]
 by_cases z:t<Ts.length
 .rw[getElem?_append_left z,<-getD_eq_getElem?_getD];show h t z
 .have:t=Ts.length:=by simp at i;lia
  subst this
  rw[getElem?_append_right (Nat.le_refl _),Nat.sub_self]
  show j
section
variable (η:List Int)(s:Int)(hs:1<=s)(hr:η.length<=300)
include hs hr
theorem wx6 (T:Nat)(Ts:List PW)(U:Ts.length<=400)(h:AllT η s Ts)(o5 o6 o7 o8 o9:Option S):∃ A I G z i,Tb η s Ts.length A/\d9 (eQ η s T Ts (some (.sh (dN Ts.length))) o5 o6 o7 o8 o9) []=some (.nx (eQ η s T (Ts++[A]) (some (.sh (dN Ts.length))) none I G z i),[]):=by
 let⟨A,I,G,z,i,tb,e⟩:=zc6 η s hs hr T Ts.length Ts (xo8 h) η.length (List.replicate η.length (1,1)) o6 o7 o8 o9 (Nat.le_refl _) (by simp) (fun q h1 h2=>by lia) (fun q _=>xj2 _ q)
 show⟨A,I,G,z,i,tb,?_⟩
 delta d9 ye9
 rw[yb9 (.int 1) (mc (.int 1)) (fun _=>rfl) η hr rfl,Option.bind_some]
 show xo7 fun y _=>?_
 have N:d8 (eQ η s T Ts (some (.sh (dN Ts.length))) (some (.sh (.ptr y))) o6 o7 o8 o9) [(y,.row (FW dN (List.replicate η.length (1,1))))]=some (.nx (eQ η s T (Ts++[A]) (some (.sh (dN Ts.length))) (some (.sh (TbD A))) I G z i),[]):=by
  delta d8
  show seqW (zu4 (its:=((List.range η.length).map fun j=>η.length-1-j).map dN) ?_ (e y)) ?_
  .delta t9
   rw[z7 (d:=.int ((η.length:Int)-1)) ((k7 (a:=.int (η.length:Int)) (b:=.int 1) (by rw[W9 (show bvar 0 _=some (η.map .int)from rfl),length_map]) rfl).trans rfl) (z7 (d:=.int (-1)) rfl (z7 (d:=.int (-1)) rfl y0)),Option.bind_some,yt1 _ (by lia),xp0]
  .delta Q2 E2
   rw[show (eQ η s T Ts (some (.sh (dN Ts.length))) (some (.sh (.ptr y))) I G z i)[5]? =some (some (.sh (.ptr y)))from rfl]
   simp only
   rw[za0]
   simp only
   rw[FW_S,show delB y [(y,Cell.row (FW dN A))]=[]by unfold delB;rw[beq_self_eq_true]]
   show yh4 ?_
   have O:(Ts.map TbD).length<sizeLine:=Nat.lt_of_lt_of_le (show (Ts.map TbD).length<1000 by rw[length_map];lia) (Nat.le_trans (by decide) n5)
   delta mapp
   show ((some (TbD A)).bind fun d=>if (Ts.map TbD).length<sizeLine then _ else none)=_
   rw[Option.bind_some,if_pos O]
   delta eQ
   rw[map_append]
   rfl
 show (d8 (eQ η s T Ts (some (.sh (dN Ts.length))) (some (.sh (.ptr y))) o6 o7 o8 o9) [(y,.row ((List.replicate η.length [D.int 1,D.int 1]).map Fl.l))]).map (L2.letGo 5 0)=_
 rw[xj3,N]
 rfl
theorem ze8 (T:Nat):∀(j:Nat)(Ts:List PW)(o4 o5 o6 o7 o8 o9:Option S),Ts.length+j<=400->AllT η s Ts->
  ∃ i Y U O N I G,i.length=Ts.length+j/\AllT η s i/\forW (.nm 4) d9 (((List.range j).map (Ts.length+·)).map dN) (eQ η s T Ts o4 o5 o6 o7 o8 o9) []=some (.nx (eQ η s T i Y U O N I G),[])
 |0,Ts,o4,o5,o6,o7,o8,o9,hl,h=>⟨Ts,o4,o5,o6,o7,o8,o9,rfl,h,rfl⟩
 |j+1,Ts,o4,o5,o6,o7,o8,o9,hl,h=>by
  let⟨A,q6,q7,q8,Z,tb,e⟩:=wx6 η s hs hr T Ts (by lia) h o5 o6 o7 o8 o9
  have hn:(Ts++[A]).length=Ts.length+1:=by simp
  let⟨i,Y,U,O,N,I,G,l2,h2,e2⟩:=ze8 T j (Ts++[A]) (some (.sh (dN Ts.length))) none q6 q7 q8 Z (by lia) (yi7 h tb)
  show⟨i,Y,U,O,N,I,G,by lia,h2,?_⟩
  rw[hn]at e2
  rw[range_succ_eq_map,map_cons,map_map,show ((Ts.length+·)∘Nat.succ:Nat->Nat)=(Ts.length+1+·)by funext z;simp only[Function.comp,Nat.succ_eq_add_one];lia,Nat.add_zero]
  show A3 (ρ1:=eQ η s T Ts (some (.sh (dN Ts.length))) o5 o6 o7 o8 o9) rfl e e2
theorem yu3 (T:Nat)(U:T<=310):∃ Ts:List PW,Ts.length=T+1/\AllT η s Ts/\Z2 [RI η,.int s,dN T]=some (.fr (Ts.map TbD)):=by
 let⟨Ts,N,I,G,z,j,i,l,h,e⟩:=ze8 η s hs hr T (T+1) [] none none none none none none (by simp;lia) (fun t O=>by simp at O)
 show⟨Ts,by simpa using l,h,?_⟩
 have Y:X7 (eQ η s T Ts N I G z j i) []=some (.rf (Ts.map TbD),[]):=by
  delta X7 zb0
  rw[show (eQ η s T Ts N I G z j i)[3]? =some (some (.own (Ts.map TbD)))from rfl]
 have key:W6 (u0 10 [RI η,.int s,dN T]) []=some (.rf (Ts.map TbD),[]):=by
  delta W6
  show seqW (ρ':=eQ η s T [] none none none none none none) (yh4 (setF_nil.trans rfl)) (seqW (zu4 (xa7 T U rfl) e) Y)
 delta Z2
 show ys2 key
end
end
section
open PySem L2
theorem zu7 {b:List (Option Nat)}{i:ML}{g:Tg}{c:MB}{e:ME}{ρ:Ro}{ds:List D}(h:i ρ=some ds):X0 b i g c e ρ=Y1 g c e ds (V2 b ρ) []:=by delta X0;rw[h];rfl
noncomputable def wM (w:Nat×Nat):Nat:=max w.1 w.2
theorem xu4 (b:Bool)(w:Nat×Nat):pick b w<=wM w:=by delta pick wM;split <;> lia
theorem xw0 (w:Nat×Nat):∃ b,wM w=pick b w:=by
 delta wM
 by_cases h:w.1<=w.2
 .exact⟨true,by show max w.1 w.2=w.2;lia⟩
 .exact⟨false,by show max w.1 w.2=w.1;lia⟩
theorem xr1 {m:ML}{ρ:Ro}{a b:Nat}(h:m ρ=some [dN a,dN b]):zq9 m ρ=some (dN (max a b)):=by
 rw[zb1 (x:=(a:Int)) (r:=[(b:Int)]) h]
 show some (D.int (if (b:Int)>(a:Int)then (b:Int)else (a:Int)))=some (D.int ((max a b:Nat):Int))
 congr 2
 split <;> lia
theorem xs9 (A:PW)(N:A.length<=300):∃ v:Nat,zp5 [TbD A]=some (.sh (dN v))/\(∀ w∈A,wM w<=v)/\(v=0\/∃ w∈A,v=wM w):=by
 have e:X0 [none] (u6 (mvar 0)) (.nm 0) cyes (zq9 (bvar 0)) (u0 1 [TbD A])=some ((A.map fun w=>((wM w:Nat):Int)).map .int):=by
  rw[zu7 (j8 (m:=mvar 0) (ds:=DW dN A) rfl)]
  show(U9 (f:=fun w:Nat×Nat=>D.lst [dN w.1,dN w.2]) (G:=fun w=>D.int ((wM w:Nat):Int)) (fun _ ρ=>∃ o,ρ=[o]) (by
   rintro w ws ρ ⟨o,rfl⟩
   show⟨[some (.sh (.lst [dN w.1,dN w.2]))],rfl,rfl,xr1 rfl,_,rfl⟩) A _ [] ⟨none,rfl⟩ (w5 (by simp;lia))).trans ?_
  rw[nil_append,map_map];rfl
 obtain⟨vs,i⟩:∃ vs,vs=A.map fun w=>((wM w:Nat):Int):=⟨_,rfl⟩
 rw[<-i]at e
 have h1:=zb8 (ns:=0::vs) (by simp)
 have h2:∀ y∈(0:Int)::vs,y<=maxI (0::vs):=fun y I=>yo5 I
 have O:=h2 0 (by simp)
 obtain⟨v,j⟩:∃ v:Nat,maxI (0::vs)=(v:Int):=⟨(maxI (0::vs)).toNat,by lia⟩
 rw[j]at h1 h2
 show⟨v,?_,fun w hw=>?_,?_⟩
 .delta zp5 xp7
  show T8 (L6 ?_)
  rw[zb1 (x:=0) (r:=vs) (yo2 (ds:=[.int 0]) (es:=vs.map .int) (v7 (z7 (d:=.int 0) rfl y0) (w5 (by decide))) e (w5 (by rw[i];simp;lia))),j]
  rfl
 .have:=h2 ((wM w:Nat):Int) (mem_cons_of_mem _ (by rw[i];show List.mem_map.mpr ⟨w,hw,rfl⟩))
  lia
 .rcases List.mem_cons.mp h1 with z|z
  .exact .inl (by lia)
  .rw[i]at z
   let⟨w,hw,e⟩:=List.mem_map.mp z
   show .inr ⟨w,hw,by lia⟩
theorem yp4 {η:List Int}{s:Int}{t:Nat}{A:PW}(hr:η.length<=300)(h:Tb η s t A):∃ v,zp5 [TbD A]=some (.sh (dN v))/\Kt η s t v:=by
 have U:=h.len
 let⟨v,e,h1,h2⟩:=xs9 A (by lia)
 have i:∀ q,q<η.length->A.getD q (1,1)∈A:=fun q I=>by
  rw[getD_eq_getElem?_getD,getElem?_eq_getElem (by lia)]
  show getElem_mem _
 show⟨v,e,wy5 hr ⟨?_,fun l G=>?_⟩⟩
 .rcases h2 with z|⟨w,hw,z⟩
  .exact⟨[],.inl rfl,by rw[z];rfl⟩
  .let⟨q,I,rfl⟩:=getElem_of_mem hw
   let⟨b,O⟩:=xw0 A[q]
   have hm:=h.at' q (by lia) (!b)
   rw[Bool.not_not,getD_eq_getElem?_getD,getElem?_eq_getElem I]at hm
   let⟨⟨l,j,N⟩,_⟩:=hm
   show⟨l,.inr ⟨!b,j.1⟩,?_⟩
   rw[N,z,O];rfl
 .rcases G with rfl|⟨d,hd⟩
  .simp
  .cases l with
   |nil=>simp
   |cons p l=>
    have hp:=hd.lt
    have:=(h.at' p hp d).2 (p::l) ⟨hd,l,rfl⟩
    have Z:=xu4 (!d) (A.getD p (1,1))
    have Y:=h1 _ (i p hp)
    lia
theorem xr8 {η:List Int}{s:Int}(hs:1<=s)(hr:η.length<=300)(T:Nat)(hT:T<=310):∃ vs:List Nat,vs.length=T+1/\(∀ t,t<T+1->Kt η s t (vs.getD t 0))/\∀{I:ML}{ρ:Ro},(∀ ds,Z2 [RI η,.int s,dN T]=some (.fr ds)->I ρ=some ds)->X0 [none] I (.nm 0) cyes (n4 zp5 (z5 (mvar 0) anil)) ρ=some (vs.map dN):=by
 let⟨Ts,hl,U,e⟩:=yu3 η s hs hr T hT
 have key:∀ j:List PW,(∀ B∈j,∃ t,Tb η s t B)->∃ vs:List Nat,vs.length=j.length/\(∀ i,i<j.length->∀ t,Tb η s t (j.getD i [])->Kt η s t (vs.getD i 0))/\∀(o:Option S)(acc:List D),acc.length+j.length<=1000->Y1 (.nm 0) cyes (n4 zp5 (z5 (mvar 0) anil)) (j.map TbD) [o] acc=some (acc++vs.map dN):=by
  intro j
  induction j with
  |nil=>intro _;show⟨[],rfl,(fun i hi=>by simp at hi),fun o acc _=>by simp[Y1]⟩
  |cons B j ih=>
   intro G
   let⟨t0,O⟩:=G B (by simp)
   let⟨v,Y,_⟩:=yp4 hr O
   let⟨vs,l1,h1,e1⟩:=ih fun C hC=>G C (by simp[hC])
   show⟨v::vs,by simp[l1],fun i hi t N=>?_,fun o acc ha=>?_⟩
   .cases i with
    |zero=>
     let⟨Z,z,k'⟩:=yp4 hr (t:=t) (A:=B) N
     rw[Y]at z
     have:v=Z:=by simp only[Option.some.injEq,Rt.sh.injEq,dN,D.int.injEq]at z;lia
     subst this
     show k'
    |succ i=>show h1 i (by simp at hi;lia) t N
   .rw[length_cons]at ha
    have em:n4 zp5 (z5 (mvar 0) anil) [some (.sh (TbD B))]=some (dN v):=g6 (z7 (d:=TbD B) rfl y0) Y
    rw[map_cons,map_cons]
    unfold Y1
    rw[show tgD (.nm 0) (TbD B) [o]=some [some (.sh (TbD B))]from rfl]
    simp only
    rw[show cyes [some (S.sh (TbD B))]=some true from rfl]
    simp only
    rw[em]
    simp only
    rw[if_pos (show acc.length<sizeLine from Nat.lt_of_lt_of_le (show acc.length<1000 by lia) (Nat.le_trans (by decide) n5)),e1 _ _ (by simp;lia),append_assoc]
    rfl
 let⟨vs,l1,h1,e1⟩:=key Ts fun B G=>by
  let⟨i,hi,rfl⟩:=getElem_of_mem G
  have:=U i hi
  rw[getD_eq_getElem?_getD,getElem?_eq_getElem hi]at this
  show⟨i,this⟩
 show⟨vs,by lia,fun t N=>h1 t (by lia) t (U t (by lia)),fun{I ρ} hm=>?_⟩
 rw[zu7 (hm _ e)]
 show(e1 none [] (by simp;lia)).trans rfl
end
section
open PySem L2
end
section
open PySem L2
structure Wide (x:Nat->Int)(n:Nat)(s:Int)(h:Nat->Int)(cg:Nat->Nat):Prop where
 near:∀ i,i<n->h i<=x i/\x i-h i<=s / 2
 mono:∀ i,i+1<n->cg i<=cg (i+1)
 few:∀ i,i<n->cg i<=7
 up:∀ i,i+1<n->cg (i+1) % 2=0->h i<=h (i+1)
 down:∀ i,i+1<n->cg (i+1) % 2=1->h (i+1)<=h i
section
variable {x:Nat->Int}{n:Nat}{s:Int}{h:Nat->Int}{cg:Nat->Nat}(W:Wide x n s h cg)(hs:1<=s)
include W
theorem Wide.le {i:Nat}:∀{j:Nat},i<=j->j<n->cg i<=cg j
 |0,hi,_=>by rw[show i=0 by lia];show Nat.le_refl _
 |j+1,hi,hj=>by
  by_cases z:i=j+1
  .rw[z];show Nat.le_refl _
  .exact Nat.le_trans (Wide.le (by lia) (by lia)) (W.mono j hj)
noncomputable def dpar (d:Bool):Nat:=if d then 0 else 1
theorem Wide.flat (d:Bool){p:Nat}:∀(j:Nat),p+j<n->(∀ k,p<k->k<=p+j->cg k % 2≠dpar d)->(if d then h (p+j)<=h p else h p<=h (p+j))
 |0,_,_=>by ext d <;> show Int.le_refl _
 |j+1,hj,hk=>by
  have i:=Wide.flat d j (by lia) fun k h1 h2=>hk k h1 (by lia)
  have h1:=hk (p+(j+1)) (by lia) (Nat.le_refl _)
  have e:p+(j+1)=p+j+1:=by lia
  rw[e]at h1 ⊢
  cases d with
  |true=>
   have:=W.down (p+j) (by lia) (by simp only[dpar,if_true]at h1;lia)
   simp only[if_true]at i ⊢
   lia
  |false=>
   have:=W.up (p+j) (by lia) (by simp only[dpar,Bool.false_eq_true,if_false]at h1;lia)
   simp only[Bool.false_eq_true,if_false]at i ⊢
   lia
include hs
theorem Wide.sees {d:Bool}{p q:Nat}(hp:p<q)(G:q<n)(i:far s d (x p) (x q)):∃ k,p<k/\k<=q/\cg k % 2=dpar d:=by
 by_cases z:∃ k,p<k/\k<=q/\cg k % 2=dpar d
 .exact z
 .exfalso
  have h1:=W.flat d (p:=p) (q-p) (by lia) fun k h1 h2 j=>z ⟨k,h1,by lia,j⟩
  rw[show p+(q-p)=q by lia]at h1
  have h2:=W.near p (by lia)
  have j:=W.near q G
  cases d with
  |true=>
   simp only[if_true]at h1
   delta far at i
   simp only[if_true]at i
   lia
  |false=>
   simp only[Bool.false_eq_true,if_false]at h1
   delta far at i
   simp only[Bool.false_eq_true,if_false]at i
   lia
theorem Wide.bound:∀(l:List Nat)(p q t k:Nat)(d:Bool),Sd x n s (p::q::l) t d->k<=q->cg k % 2=dpar d->Sd x n s (p::q::l) (7-cg k) d
 |[],p,q,t,k,d,hS,_,_=>⟨hS.1,hS.2.1,.inl (by rcases hS.2.2 with z|⟨u,_,z⟩ <;> show z)⟩
 |r::l,p,q,t,k,d,hS,hk,hc=>by
  show⟨hS.1,hS.2.1,?_⟩
  rcases hS.2.2 with z|⟨u,_,z⟩
  .have hr:r<n:=by rcases z.2.2 with y|⟨_,_,y⟩ <;> show y.lt
   let⟨k',a,b,c⟩:=W.sees hs z.1 hr z.2.1
   have:=W.le (i:=k) (j:=k') (by lia) (by lia)
   show .inl ((Wide.bound l q r t k' d z b c).mono (by lia))
  .have hr:r<n:=by rcases z.2.2 with y|⟨_,_,y⟩ <;> show y.lt
   let⟨k',a,b,c⟩:=W.sees hs z.1 hr z.2.1
   have h1:=W.le (i:=k) (j:=k') (by lia) (by lia)
   have h2:=W.few k' (by lia)
   have G:cg k≠cg k':=fun e=>by
    rw[<-e,hc]at c
    ext d <;> ext c
   show .inr ⟨7-cg k-1,by lia,(Wide.bound l q r u k' (!d) z b c).mono (by lia)⟩
theorem Wide.turns {t:Nat}{l:List Nat}(j:Tn x n s t l):Tn x n s 7 l:=by
 rcases j with z|⟨d,z⟩
 .exact .inl z
 .refine .inr ⟨d,?_⟩
  match l,z with
  |[p],z=>show z
  |p::q::l,z=>
   have i:q<n:=by rcases z.2.2 with y|⟨_,_,y⟩ <;> show y.lt
   let⟨k,a,b,c⟩:=W.sees hs z.1 i z.2.1
   show(W.bound hs l p q t k d z b c).mono (by lia)
end
noncomputable def c7 (bs:List Int)(j:Nat):Nat:=((List.range j).filter fun(i:Nat)=>bs.contains (i:Int)).length
theorem zx2 (bs:List Int)(j:Nat):c7 bs (j+1)=c7 bs j+if bs.contains (j:Int)then 1 else 0:=by
 delta c7
 rw[range_succ,filter_append,length_append,filter_cons]
 split <;> rfl
theorem xz9 (b:Int):∀ j:Nat,((List.range j).filter fun(i:Nat)=>(i:Int)==b).length<=if b<(j:Int)then 1 else 0
 |0=>Nat.zero_le _
 |j+1=>by
  have G:=xz9 b j
  rw[range_succ,filter_append,length_append,filter_cons]
  by_cases z:(j:Int)=b
  .rw[if_pos (beq_iff_eq.mpr z)]
   rw[if_neg (by lia)]at G
   rw[if_pos (by lia)]
   simp only[filter_nil,length_cons,length_nil]
   lia
  .rw[if_neg (by simpa using z)]
   simp only[filter_nil,length_nil]
   by_cases y:b<(j:Int)
   .rw[if_pos y]at G
    rw[if_pos (by lia)]
    show G
   .rw[if_neg y]at G
    lia
theorem zo5 (p q:Nat->Bool):∀ l:List Nat,(l.filter fun i=>p i || q i).length<=(l.filter p).length+(l.filter q).length
 |[]=>Nat.zero_le _
 |a::l=>by
  have:=zo5 p q l
  simp only[filter_cons]
  cases p a <;> cases q a <;> simp <;> lia
theorem yz0 (j:Nat):∀ bs:List Int,c7 bs j<=bs.length
 |[]=>by
  unfold c7
  rw[List.filter_eq_nil_iff.mpr (by simp)];show Nat.le_refl _
 |b::bs=>by
  have z:=yz0 j bs
  have h1:=zo5 (fun(i:Nat)=>(i:Int)==b) (fun(i:Nat)=>bs.contains (i:Int)) (List.range j)
  have h2:=xz9 b j
  have e:c7 (b::bs) j=((List.range j).filter fun(i:Nat)=>((i:Int)==b) || bs.contains (i:Int)).length:=by
   unfold c7
   congr 1
  unfold c7 at z
  rw[e,length_cons]
  have:(if b<(j:Int)then 1 else 0:Nat)<=1:=by split <;> lia
  lia
end
section
open PySem L2
theorem ym9:∀ ps:List Int,flVs (ps.map D.int)=some (ps.map V.int)
 |[]=>rfl
 |p::ps=>by rw[map_cons,flVs,ym9 ps];rfl
theorem xy6 (i:Int):∀ ps:List Int,inV (.int i) (ps.map V.int)=ps.contains i
 |[]=>rfl
 |p::ps=>by
  have j:=xy6 i ps
  unfold inV at j ⊢
  rw[map_cons,any_cons,j,contains_cons]
  congr 1
  show (p==i)=(i==p)
  rw[Bool.eq_iff_iff,beq_iff_eq,beq_iff_eq]
  show eq_comm
theorem wy9 (i:Int)(ps:List Int):inD false (.int i) (.lst (ps.map .int))=some (.bl (ps.contains i)):=by
 show inDs false (.int i) (ps.map .int)=_
 delta inDs
 rw[ym9]
 show some (D.bl (inV (.int i) (ps.map V.int)))=_
 rw[xy6]
theorem zg0 {g:Tg}{body:MS}{d:D}{ds:List D}{ρ ρ1 i:Ro}(h1:tgD g d ρ=some ρ1)(h2:body ρ1=some (.nx i)):forD g body (d::ds) ρ=forD g body ds i:=by
 rw[forD,h1];simp only;rw[h2]
theorem yz6 (many:Int)(hm:0<many)(j:many<1073741824):∀(its:List D)(c k:Int)(o:Option S)(acc:List Int),acc.length+its.length<=1000->∃(f:List Int)(c' k':Int)(o':Option S),f.length=acc.length+its.length/\
  c8 (y8 u4 1 (apu (z5 (mvar 2) anil))) its [o,some (.own (RL c k)),k0c many] (acc.map .int)=some (f.map .int,[o',some (.own (RL c' k')),k0c many])
 |[],c,k,o,acc,_=>⟨acc,c,k,o,by simp,rfl⟩
 |i::its,c,k,o,acc,h=>by
  let⟨x,G,z,_,_,e⟩:=u9 c k many hm j
  let⟨f,c',k',o',N,e2⟩:=yz6 many hm j its G z (some (.sh i)) (acc++[x]) (by simp at h ⊢;lia)
  show⟨f,c',k',o',by rw[N];simp;lia,?_⟩
  rw[c8]
  have e3:y8 u4 1 (apu (z5 (mvar 2) anil)) [some (.sh i),some (.own (RL c k)),k0c many]=some (.int x,[some (.sh i),some (.own (RL G z)),k0c many]):=
   f7 (r0:=RL c k) (r2:=RL c k) rfl (c9 (z7 (d:=.int many) rfl y0)) rfl e rfl
  show (match y8 u4 1 (apu (z5 (mvar 2) anil)) [some (.sh i),some (.own (RL c k)),k0c many]with |some (x,ρ1)=>if (acc.map D.int).length<sizeLine then c8 _ its ρ1 (acc.map D.int++[x])else none|none=>none)=_
  rw[e3]
  have I:(acc.map D.int).length<sizeLine:=by
   have:=n5
   rw[length_map];simp at h;lia
  simp only[I,if_true]
  rw[map_append]at e2
  show e2
noncomputable def eV (p:Addr)(c k s many:Int)(bs:List Int)(here sign:Int)(fs:List Int)(o7:Option S):Ro:=[some (.ob p (RL c k)),k0c s,k0c many,k0a bs,k0c here,k0c sign,some (.own (fs.map .int)),o7]
noncomputable def sgn (t:Nat):Int:=if t % 2=0 then 1 else -1
theorem yh8 (t:Nat):0-sgn t=sgn (t+1):=by
 delta sgn
 by_cases h:t % 2=0
 .rw[if_pos h,if_neg (by lia)];rfl
 .rw[if_neg h,if_pos (by lia)];rfl
structure Wk (bs:List Int)(s:Int)(j:Nat)(hs fs:List Int):Prop where
 l1:hs.length=j
 l2:fs.length=j
 near:∀ i,i<j->hs.getD i 0<=fs.getD i 0/\fs.getD i 0-hs.getD i 0<=s / 2
 up:∀ i,i+1<j->c7 bs (i+2) % 2=0->hs.getD i 0<=hs.getD (i+1) 0
 down:∀ i,i+1<j->c7 bs (i+2) % 2=1->hs.getD (i+1) 0<=hs.getD i 0
noncomputable def t4 (hs:List Int):Int:=hs.getD (hs.length-1) 0
theorem X2 (xs:List Int)(v:Int)(i:Nat):(xs++[v]).getD i 0=if i<xs.length then xs.getD i 0 else if i=xs.length then v else 0:=by
 rw[getD_eq_getElem?_getD]
 by_cases h:i<xs.length
 .rw[if_pos h,getElem?_append_left h,<-getD_eq_getElem?_getD]
 .rw[if_neg h,getElem?_append_right (by lia)]
  by_cases z:i=xs.length
  .rw[if_pos z,z,Nat.sub_self];rfl
  .rw[if_neg z,getElem?_eq_none (by simp;lia)];rfl
theorem xx8 {bs:List Int}{s:Int}{j:Nat}{hs fs:List Int}(W:Wk bs s j hs fs){a e:Int}(ha:0<=a)(N:0<=e)(G:e<=s / 2):Wk bs s (j+1) (hs++[t4 hs+sgn (c7 bs (j+1))*a]) (fs++[t4 hs+sgn (c7 bs (j+1))*a+e]):=by
 have e1:=W.l1
 have e2:=W.l2
 show⟨by simp[e1],by simp[e2],fun i hi=>?_,fun i hi hp=>?_,fun i hi hp=>?_⟩
 .rw[X2,X2]
  by_cases z:i<j
  .rw[if_pos (show i<hs.length by lia),if_pos (show i<fs.length by lia)];show W.near i z
  .rw[if_neg (show ¬ i<hs.length by lia),if_neg (show ¬ i<fs.length by lia),if_pos (show i=hs.length by lia),if_pos (show i=fs.length by lia)]
   generalize t4 hs+sgn (c7 bs (j+1))*a=y
   lia
 .rw[X2,X2,if_pos (show i<hs.length by lia)]
  by_cases z:i+1<j
  .rw[if_pos (show i+1<hs.length by lia)];show W.up i z hp
  .have ij:i+1=j:=by lia
   rw[if_neg (show ¬ i+1<hs.length by lia),if_pos (show i+1=hs.length by lia)]
   have h1:sgn (c7 bs (j+1))=1:=by delta sgn;rw[<-ij];show if_pos hp
   have h2:t4 hs=hs.getD i 0:=by delta t4;rw[e1,show j-1=i by lia]
   rw[h1,h2]
   lia
 .rw[X2,X2,if_pos (show i<hs.length by lia)]
  by_cases z:i+1<j
  .rw[if_pos (show i+1<hs.length by lia)];show W.down i z hp
  .have ij:i+1=j:=by lia
   rw[if_neg (show ¬ i+1<hs.length by lia),if_pos (show i+1=hs.length by lia)]
   have h1:sgn (c7 bs (j+1))= -1:=by delta sgn;rw[<-ij];show if_neg (show ¬ c7 bs (i+1+1) % 2=0 by have I:c7 bs (i+1+1) % 2=1:=hp;lia)
   have h2:t4 hs=hs.getD i 0:=by delta t4;rw[e1,show j-1=i by lia]
   rw[h1,h2]
   lia
theorem ym3 (hs:List Int)(v:Int):t4 (hs++[v])=v:=by
 delta t4
 rw[X2,length_append,length_singleton,if_neg (by lia),if_pos (by lia)]
theorem xx9 {bs:List Int}{s:Int}{n:Nat}{hs fs:List Int}(W:Wk bs s n hs fs)(j:bs.length<=7):Wide (xr fs) n s (fun i=>hs.getD i 0) (fun i=>c7 bs (i+1)):=
 ⟨fun i hi=>W.near i hi,fun i _=>by rw[zx2 bs (i+1)];lia,fun i _=>Nat.le_trans (yz0 _ _) j,fun i hi hp=>W.up i hi hp,fun i hi hp=>W.down i hi hp⟩
theorem yv6 (s many:Int)(a2:1<=s)(Z:s<=100)(bs:List Int)(j:Nat)(hj:j<300)(hs fs:List Int)(W:Wk bs s j hs fs)(c k:Int):∃ G fs' c' k',Wk bs s (j+1) G fs'/\∀ p,D1 (eV p c k s many bs (t4 hs) (sgn (c7 bs j)) fs (some (.sh (dN j))))=some (.nx (eV p c' k' s many bs (t4 G) (sgn (c7 bs (j+1))) fs' (some (.sh (dN j))))):=by
 let⟨a,z,i,a0,a1,ea⟩:=u9 c k 4 (by decide) (by decide)
 have hd:(0:Int)<=s / 2:=Int.ediv_nonneg (by lia) (by decide)
 have a4:s / 2<1000:=by lia
 let⟨e,N,I,e0,e1,ee⟩:=u9 z i (s / 2+1) (by lia) (by lia)
 show⟨_,_,N,I,xx8 W a0 e0 (by lia),fun p=>?_⟩
 rw[ym3]
 delta D1
 have O:v3 (m2 (inD false) (mvar 7) (mvar 3)) (eV p c k s many bs (t4 hs) (sgn (c7 bs j)) fs (some (.sh (dN j))))=some (bs.contains (j:Int)):=Q6 ((k7 (a:=.int (j:Int)) (b:=.lst (bs.map .int)) rfl rfl).trans (wy9 _ _))
 show seqI (ρ':=eV p c k s many bs (t4 hs) (sgn (c7 bs (j+1))) fs (some (.sh (dN j)))) ?_ ?_
 .rw[U4 O,zx2]
  cases bs.contains (j:Int)with
  |true=>
   rw[if_pos rfl,if_pos rfl,<-yh8]
   show(Y8 ((k7 (a:=.int 0) (b:=.int (sgn (c7 bs j))) rfl rfl).trans rfl)).trans rfl
  |false=>rfl
 generalize hg:sgn (c7 bs (j+1))=g
 have a3:g=1\/g= -1:=by rw[<-hg];delta sgn;split <;> simp
 have U:O1 g a=true:=C5 _ _ (by lia) (by lia)
 have en:y8 u4 0 (apu (z5 (mc (.int 4)) anil)) (eV p c k s many bs (t4 hs) g fs (some (.sh (dN j))))=some (.int a,eV p z i s many bs (t4 hs) g fs (some (.sh (dN j)))):=t5 ea rfl
 have em:m2m mulD (mpu (mvar 5)) (y8 u4 0 (apu (z5 (mc (.int 4)) anil))) (eV p c k s many bs (t4 hs) g fs (some (.sh (dN j))))=some (.int (g*a),eV p z i s many bs (t4 hs) g fs (some (.sh (dN j)))):=f9 (m7 (d:=.int g) rfl) en (by show (if O1 g a=true then some (D.int (g*a))else none)=_;rw[if_pos U])
 show seqI (ρ':=eV p z i s many bs (t4 hs+g*a) g fs (some (.sh (dN j)))) ((n9 (f9 (m7 (d:=.int (t4 hs)) rfl) em (g:=.int (t4 hs+g*a)) rfl)).trans rfl) ?_
 have ed:m2 addD (m2 zo6 (mvar 1) (mc (.int 2))) (mc (.int 1)) (eV p z i s many bs (t4 hs+g*a) g fs (some (.sh (dN j))))=some (.int (s / 2+1)):=by
  show(k7 (a:=.int (s / 2)) (b:=.int 1) ?_ rfl).trans rfl
  rw[k7 (a:=.int s) (b:=.int 2) rfl rfl]
  show (if zx3 s 2=true then some (D.int (s / 2))else none)=_
  rw[if_pos (A8 _ _ (by decide) (by decide))]
 have ef:m2m addD (mpu (mvar 4)) (y8 u4 0 (apu (z5 (m2 addD (m2 zo6 (mvar 1) (mc (.int 2))) (mc (.int 1))) anil))) (eV p z i s many bs (t4 hs+g*a) g fs (some (.sh (dN j))))=some (.int (t4 hs+g*a+e),eV p N I s many bs (t4 hs+g*a) g fs (some (.sh (dN j)))):=f9 (m7 (d:=.int (t4 hs+g*a)) rfl) (t5 ee ed) rfl
 have Y:(fs.map D.int).length<sizeLine:=Nat.lt_of_lt_of_le (show (fs.map D.int).length<1000 by rw[length_map,W.l2];lia) (Nat.le_trans (by decide) n5)
 delta yd7
 rw[show (eV p z i s many bs (t4 hs+g*a) g fs (some (.sh (dN j))))[6]? =some (some (.own (fs.map .int)))from rfl]
 simp only
 rw[ef]
 simp only
 rw[show (eV p N I s many bs (t4 hs+g*a) g fs (some (.sh (dN j))))[6]? =some (some (.own (fs.map .int)))from rfl]
 simp only
 rw[if_pos Y]
 delta eV
 rw[map_append]
 rfl
theorem zt9 (s many:Int)(I:1<=s)(G:s<=100)(bs:List Int):∀(i j:Nat)(hs fs:List Int)(c k:Int)(o7:Option S),i+j<=300->Wk bs s j hs fs->∃ N fs' c' k' O,Wk bs s (j+i) N fs'/\∀ p,forD (.nm 7) D1 (((List.range i).map (j+·)).map dN) (eV p c k s many bs (t4 hs) (sgn (c7 bs j)) fs o7)=some (.nx (eV p c' k' s many bs (t4 N) (sgn (c7 bs (j+i))) fs' O))
 |0,j,hs,fs,c,k,o7,_,W=>⟨hs,fs,c,k,o7,W,fun p=>rfl⟩
 |i+1,j,hs,fs,c,k,o7,hl,W=>by
  let⟨h1,f1,c1,Y,W1,e1⟩:=yv6 s many I G bs j (by lia) hs fs W c k
  let⟨h2,Z,c2,U,O,W2,e2⟩:=zt9 s many I G bs i (j+1) h1 f1 c1 Y (some (.sh (dN j))) (by lia) W1
  show⟨h2,Z,c2,U,O,by rw[show j+(i+1)=j+1+i by lia];show W2,fun p=>?_⟩
  rw[range_succ_eq_map,map_cons,map_map,show ((j+·)∘Nat.succ:Nat->Nat)=(j+1+·)by funext z;simp only[Function.comp,Nat.succ_eq_add_one];lia,Nat.add_zero,map_cons,show j+(i+1)=j+1+i by lia]
  show(zg0 (ρ1:=eV p c k s many bs (t4 hs) (sgn (c7 bs j)) fs (some (.sh (dN j)))) rfl (e1 p)).trans (e2 p)
theorem zk2 (s:Int)(Y:1<=s)(U:s<=100)(c k:Int):∃(fs:List Int)(c' k':Int),1<=fs.length/\fs.length<=300/\(∃ h cg,Wide (xr fs) fs.length s h cg)/\∀ p,yn0 p (RL c k) [.int s]=some (.fr (fs.map .int),RL c' k'):=by
 let⟨m,I,G,m0,m1,em⟩:=u9 c k 201 (by decide) (by decide)
 let⟨b,Z,O,b0,b1,eb⟩:=u9 I G 8 (by decide) (by decide)
 have hb:okR b=true:=Y4 (by lia) (by lia)
 have hm:okR (100+m)=true:=Y4 (by lia) (by lia)
 let⟨bs,z,j,o',lb,e3⟩:=yz6 (100+m) (by lia) (by lia) (g9 0 b.toNat) Z O none [] (by delta g9;simp;lia)
 have N:bs.length<=7:=by rw[lb];delta g9;simp;lia
 let⟨hs,fs,c4,k4,p7,W,e4⟩:=zt9 s (100+m) Y U bs (100+m).toNat 0 [] [] z j none (by lia) ⟨rfl,rfl,(fun i hi=>by lia),(fun i hi=>by lia),(fun i hi=>by lia)⟩
 rw[Nat.zero_add]at W
 show⟨fs,c4,k4,by rw[W.l2];lia,by rw[W.l2];lia,⟨_,_,by rw[W.l2];show xx9 W N⟩,fun p=>?_⟩
 delta yn0
 show zd1 ?_
 delta xo2
 show seqI (ρ':=[some (.ob p (RL I G)),k0c s,some (.sh (.int (100+m))),none,none,none,none,none]) ((n9 (f9 (m7 (d:=.int 100) rfl) (t5 em rfl) (g:=.int (100+m)) rfl)).trans rfl) ?_
 have ec:Z1 [none,some 0,some 2] (K9 rng1 (j3 (y8 u4 0 (apu (z5 (mc (.int 8)) anil))) (apu anil))) 0 1 (y8 u4 1 (apu (z5 (mvar 2) anil))) [some (.ob p (RL I G)),k0c s,some (.sh (.int (100+m))),none,none,none,none,none]=some (.lst (bs.map .int),[some (.ob p (RL z j)),k0c s,some (.sh (.int (100+m))),none,none,none,none,none]):=by
  have ea:j3 (y8 u4 0 (apu (z5 (mc (.int 8)) anil))) (apu anil) [some (.ob p (RL I G)),k0c s,some (.sh (.int (100+m))),none,none,none,none,none]=some ([.int b],[some (.ob p (RL Z O)),k0c s,some (.sh (.int (100+m))),none,none,none,none,none]):=i6 (t5 eb rfl) (c9 y0)
  delta Z1 K9
  rw[ea]
  simp only
  rw[P7 hb]
  simp only
  show(L8 (its:=g9 0 b.toNat) (r0:=RL Z O) (rr:=p) rfl rfl e3 rfl).trans rfl
 show seqI (ρ':=[some (.ob p (RL z j)),k0c s,some (.sh (.int (100+m))),k0a bs,none,none,none,none]) ((n9 ec).trans rfl) ?_
 show seqI (ρ':=[some (.ob p (RL z j)),k0c s,some (.sh (.int (100+m))),k0a bs,some (.sh (.int 0)),none,none,none]) rfl ?_
 show seqI (ρ':=[some (.ob p (RL z j)),k0c s,some (.sh (.int (100+m))),k0a bs,some (.sh (.int 0)),some (.sh (.int 1)),none,none]) rfl ?_
 show seqI (ρ':=eV p z j s (100+m) bs 0 1 [] none) (setF_nil.trans rfl) ?_
 show seqI (ρ':=eV p c4 k4 s (100+m) bs (t4 hs) (sgn (c7 bs (0+(100+m).toNat))) fs p7) ?_ ?_
 .delta mfor t9
  rw[z7 (d:=.int (100+m)) rfl y0,Option.bind_some,P7 hm,Option.bind_some]
  have er:g9 0 (100+m).toNat=((List.range (100+m).toNat).map (0+·)).map dN:=by
   rw[N1,map_map,map_map]
   show map_congr_left fun i _=>?_
   simp only[Function.comp,Nat.zero_add]
   rfl
  rw[er]
  show e4 p
 .delta zy9
  rfl
end
section
open PySem L2
theorem yu8 {i:Nat}{q:Addr}{ds:List D}{g:Tg}{body:MS}{ρ:Ro}{f:Nat->D}(n:Nat)(h0:ρ[i]? =some (some (.ob q ds)))(hn:X8 ds=true)(he:X5 0 ds=(List.range n).map f)(I:Nat->Ro->Prop)(h:I 0 ρ)(keep:∀ j ρ,I j ρ->ρ[i]? =some (some (.ob q ds)))
  (hs:∀ j ρ,j<n->I j ρ->∃ ρ1 z,tgD g (f j) ρ=some ρ1/\body ρ1=some (.nx z)/\I (j+1) z):∃ ρ',zp1 i g body ρ=some (.nx ρ')/\I n ρ':=by
 have G:∀(k j:Nat)(ρ:Ro),n-j=k->j<=n->I j ρ->∃ ρ',A5 i q ds g body ((List.range' j k).map f) ρ=some (.nx ρ')/\I n ρ':=by
  intro k
  induction k with
  |zero=>
   intro j ρ Y Z h
   have:j=n:=by lia
   subst this
   show⟨ρ,by unfold A5;rw[range'_zero,map_nil];show if_pos (keep _ _ h),h⟩
  |succ k U=>
   intro j ρ Y Z h
   let⟨ρ1,z,a1,a2,a3⟩:=hs j ρ (by lia) h
   let⟨ρ',O,N⟩:=U (j+1) z (by lia) (by lia) a3
   show⟨ρ',?_,N⟩
   rw[range'_succ,map_cons]
   unfold A5
   rw[if_pos (keep _ _ h),a1]
   simp only[a2]
   show O
 let⟨ρ',O,N⟩:=G n 0 ρ (by lia) (by lia) h
 show⟨ρ',?_,N⟩
 delta zp1
 rw[h0]
 show (if X8 ds=true then A5 i q ds g body (X5 0 ds) ρ else none)=_
 rw[if_pos hn,he,range_eq_range']
 show O
noncomputable def G5 (p:Addr)(η:List Int)(s:Int)(A B:List (List Nat))(o4 o5:Option S):Ro:=[some (.ob p (η.map .int)),k0c s,some (.own (A.map L)),some (.own (B.map L)),o4,o5]
theorem zm6 (I:Addr)(η:List Int)(s:Int)(d:Bool)(p:Nat)(hr:η.length<=300)(hp:p<η.length)(A B:List (List Nat))(i:MB)
  (U:∀ q:Nat,q<η.length->i [some (.sh (dN q)),k0c s,some (.sh (.int (xr η p))),some (.own (η.map .int))]=some (decide (far s d (xr η p) (xr η q)))):
  B0 [none,some 1,some 5,some 0] (t9 rng2 (z5 (m2 addD (mvar 4) (mc (.int 1))) (z5 (mlen (bvar 0)) anil))) (.nm 0) i (mvar 0) (G5 I η s A B (k0b p) (some (.sh (.int (xr η p)))))=some ((abv η s d p).map dN):=by
 have O:okR ((p:Int)+1)=true:=Y4 (by lia) (by lia)
 have N:okR (η.length:Int)=true:=Y4 (by lia) (by lia)
 have e1:t9 rng2 (z5 (m2 addD (mvar 4) (mc (.int 1))) (z5 (mlen (bvar 0)) anil)) (G5 I η s A B (k0b p) (some (.sh (.int (xr η p)))))=some (((List.range (η.length-(p+1))).map fun j=>p+1+j).map dN):=by
  delta G5
  simp_arith [length_map,zk8 O N,zd3 η p hr hp]
 delta B0
 rw[e1,Option.bind_some]
 show Y1 _ _ _ _ [none,k0c s,some (.sh (.int (xr η p))),some (.own (η.map .int))] []=_
 rw[Z3 (f:=dN) (p:=fun q=>decide (far s d (xr η p) (xr η q))) (G:=dN) (fun qs ρ=>(∀ q∈qs,q<η.length)/\∃ o,ρ=[o,k0c s,some (.sh (.int (xr η p))),some (.own (η.map .int))])
  (by
   rintro q qs ρ ⟨z,o,rfl⟩
   show⟨_,rfl,U q (z q (by simp)),fun _=>rfl,fun r hr=>z r (by simp[hr]),_,rfl⟩) _ _ [] ⟨fun q z=>by
    let⟨j,Y,rfl⟩:=List.mem_map.mp z
    have:=List.mem_range.mp Y
    lia,_,rfl⟩ (w5 (by simp;lia)),nil_append]
 rfl
theorem B4 (p:Addr)(η:List Int)(s:Int)(hr:η.length<=300):m_Z4 p (η.map .int) [.int s]=some (.sh (SP η s),η.map .int):=by
 delta m_Z4
 show Z5 ?_
 delta b_Z4
 have a1:=n5
 have N:0<=sizeLine:=Nat.zero_le _
 have i2:2<=sizeLine:=w5 (by decide)
 show seqI (ρ':=[some (.ob p (η.map .int)),k0c s,some (.own []),none,none,none]) (by delta d3;rw[v7 y0 N];rfl) ?_
 show seqI (ρ':=G5 p η s [] [] none none) (by delta d3;rw[v7 y0 N];rfl) ?_
 have step:∀ j ρ,j<η.length->(∃ o4 o5,ρ=G5 p η s ((List.range j).map (abv η s true)) ((List.range j).map (abv η s false)) o4 o5)->∃ ρ1 z,tgD (.tp [4,5]) (D.tup [.int (j:Int),.int (xr η j)]) ρ=some ρ1/\zt5 ρ1=some (.nx z)/\∃ o4 o5,z=G5 p η s ((List.range (j+1)).map (abv η s true)) ((List.range (j+1)).map (abv η s false)) o4 o5:=by
  rintro j ρ O ⟨o4,o5,rfl⟩
  have U:∀ q:Nat,q<η.length->mix (bvar 3) (mvar 0) [some (.sh (dN q)),k0c s,some (.sh (.int (xr η j))),some (.own (η.map .int))]=some (.int (xr η q)):=fun q G=>h8 rfl rfl (zm3 η q G)
  have c1:=zm6 p η s true j hr O ((List.range j).map (abv η s true)) ((List.range j).map (abv η s false)) (v3 (m2 geD (m2 subD (mix (bvar 3) (mvar 0)) (mvar 2)) (mvar 1))) (fun q G=>by
   rw[zs4 ((k7 (U q G) rfl).trans (show subD (.int (xr η q)) (.int (xr η j))=some (.int (xr η q-xr η j))from rfl)) rfl]
   delta far;simp)
  have Z:=zm6 p η s false j hr O ((List.range (j+1)).map (abv η s true)) ((List.range j).map (abv η s false)) (v3 (m2 geD (m2 subD (mvar 2) (mix (bvar 3) (mvar 0))) (mvar 1))) (fun q G=>by
   rw[zs4 ((k7 (show mvar 2 _=some (.int (xr η j))from rfl) (U q G)).trans (show subD (.int (xr η j)) (.int (xr η q))=some (.int (xr η j-xr η q))from rfl)) rfl]
   delta far;simp)
  have app:∀(ρ:Ro)(i:Nat)(M:List (List Nat))(m:ML)(l:List Nat),ρ[i]? =some (some (.own (M.map L)))->m ρ=some (l.map dN)->M.length<sizeLine->mapp i (mlst m) ρ=some (.nx (ρ.set i (some (.own ((M++[l]).map L))))):=by
   intro ρ i M m l h1 h2 Y
   delta mapp
   rw[h1,t7 h2]
   show (some (D.lst (l.map dN))).bind (fun d=>if (M.map L).length<sizeLine then some (Out.nx (ρ.set i (some (.own (M.map L++[d])))))else none)=_
   rw[Option.bind_some,if_pos (by rw[length_map];show Y),map_append]
   rfl
  show⟨G5 p η s ((List.range j).map (abv η s true)) ((List.range j).map (abv η s false)) (k0b j) (some (.sh (.int (xr η j)))),G5 p η s ((List.range (j+1)).map (abv η s true)) ((List.range (j+1)).map (abv η s false)) (k0b j) (some (.sh (.int (xr η j)))),rfl,?_,_,_,rfl⟩
  delta zt5
  show seqI (ρ':=G5 p η s ((List.range (j+1)).map (abv η s true)) ((List.range j).map (abv η s false)) (k0b j) (some (.sh (.int (xr η j))))) ?_ ?_
  .rw[app _ 2 _ _ _ rfl c1 (by simp;lia),<-E5]
   rfl
  .rw[app _ 3 _ _ _ rfl Z (by simp;lia),<-E5]
   rfl
 let⟨ρ',e,o4,o5,rfl⟩:=yu8 (i:=0) (q:=p) (ds:=η.map .int) (g:=.tp [4,5]) (body:=zt5) (ρ:=G5 p η s [] [] none none) η.length (f:=fun(i:Nat)=>D.tup [.int (i:Int),.int (xr η i)]) rfl (ye6 η) (by rw[N9];simp only[Nat.zero_add])
  (I:=fun j ρ=>∃ o4 o5,ρ=G5 p η s ((List.range j).map (abv η s true)) ((List.range j).map (abv η s false)) o4 o5) ⟨_,_,rfl⟩ (fun j ρ h=>by let⟨_,_,rfl⟩:=h;rfl) step
 show seqI e ?_
 delta yi3
 show(show d5 3 _ (G5 p η s ((List.range η.length).map (abv η s true)) ((List.range η.length).map (abv η s false)) o4 o5)=_ from ?_)
 delta d5
 show U2 0 _ [some (.ob p (η.map .int)),k0c s,some (.sh (.lst (((List.range η.length).map (abv η s true)).map L))),some (.sh (.lst (((List.range η.length).map (abv η s false)).map L))),o4,o5]=_
 show Z0 (m7 (C6 (z7 (d:=.lst ((Ab η s true).map L)) rfl (z7 (d:=.lst ((Ab η s false).map L)) rfl y0)) i2)) rfl
theorem zq3 (p:Addr)(η:List Int)(hr:η.length<=300):yd9 p (η.map .int) []=some (.sh (TP2 (List.replicate η.length []) (List.replicate η.length [])),η.map .int):=by
 delta yd9 xp9
 have i2:2<=sizeLine:=w5 (by decide)
 have e:=zi4 η.length hr (R3 1 p (η.map .int) []) (bvar 0) _ rfl (by rw[length_map])
 show Z5 (Z0 (m7 (C6 (z7 (t7 e) (z7 (t7 e) y0)) i2)) rfl)
end
end
section
theorem yp0 {j i:Nat}{mf:MG}{m:ML}{ρ:Ro}{r0 ds z:List D}(O:ρ[i]? =some (some (.own r0)))(h1:m ρ=some ds)(h2:∀ p,mf p r0 ds=some (.fr z,r0))(N:X8 r0=true)(I:X8 ds=true)(G:X8 z=true):zq6 j i mf m ρ=some (.nx (ρ.set j (some (.own z)))):=by
 delta zq6
 rw[O];simp only
 rw[h1];simp only
 rw[yi5 h2];simp only
 rw[if_pos ⟨True.intro,N,I,G⟩]
theorem yo3 {f:MF}{m:MLm}{ρ ρ1:Ro}{ds:List D}{d:D}(h:m ρ=some (ds,ρ1))(h2:f ds=some (.sh d)):zp2 f m ρ=some (d,ρ1):=by
 delta zp2;rw[h];simp only;rw[h2]
theorem xq5:zf3=K4:=by delta zf3 K4;rfl
theorem yc5 (η:List Int)(s:Int)(hs:1<=s)(hr:η.length<=300):∃ ks,Kpt η s ks/\∀ p,m_Z0 p (η.map .int) [.int s]=some (.fr (ks.map dN),η.map .int):=by
 let⟨M,eM,Y,lM,O,N⟩:=R8 η s hr
 have i1:0+1<=sizeLine:=w5 (by decide)
 let⟨U,V,e0,G⟩:=g5 hr (zv9 η s)
 let⟨Z,a2,I⟩:=d6 hr G
 let⟨U1,V1,ks,hk,_⟩:=B5 none η s hr M Y lM O N U V G Z I
 show⟨ks,hk,fun p=>?_⟩
 let⟨U',V',a1,j,ew⟩:=B5 (some (.ob p (η.map .int))) η s hr M Y lM O N U V G Z I
 have ek:a1=ks:=by
  have key:∀{a b:List Nat},Kpt η s a->Kpt η s b->a.length<=b.length:=fun{a b} ha hb=>by
   rcases Nat.lt_or_ge b.length a.length with z|z
   .have p1:=hb.pos
    have h1:=ha.less (b.length-1) (by lia)
    have h2:=Kt.uniq (ha.at' (b.length-1) (by lia)) (hb.at' (b.length-1) (by lia))
    have h3:=hb.last _ _ (ha.at' (a.length-1) (by lia))
    lia
   .exact z
  have hl:=Nat.le_antisymm (key j hk) (key hk j)
  apply ext_getElem hl
  intro i h1 h2
  have:=Kt.uniq (j.at' i h1) (hk.at' i h2)
  rw[getD_eq_getElem?_getD,getElem?_eq_getElem h1,getD_eq_getElem?_getD,getElem?_eq_getElem h2]at this
  show this
 subst ek
 delta m_Z0
 show zd1 ?_
 delta b_Z0
 rw[xq5]
 show seqI (ρ':=[some (.ob p (η.map .int)),k0c s,none,none,none,none]) (zb4 (g6 (z7 (d:=.int s) rfl y0) (P2 s hs))) ?_
 show seqI (ρ':=[some (.ob p (η.map .int)),k0c s,some (.sh (SP η s)),none,none,none]) ((n9 (Q1 (ρ:=[some (.ob p (η.map .int)),k0c s,none,none,none,none]) (r2:=η.map .int) (r0:=η.map .int) rfl (c9 (z7 (d:=.int s) rfl y0)) rfl (B4 p η s hr) rfl)).trans rfl) ?_
 show seqI (ρ':=[some (.ob p (η.map .int)),k0c s,some (.sh (SP η s)),some (.sh (dN M)),none,none]) ((Y8 (g6 (z7 (d:=SP η s) rfl y0) eM)).trans rfl) ?_
 show seqI (ρ':=[some (.ob p (η.map .int)),k0c s,some (.sh (SP η s)),some (.sh (dN M)),some (.sh (TP2 U V)),none]) ((n9 (yo3 (i6 (m7 (d:=SP η s) rfl) (i6 (Q1 (ρ:=[some (.ob p (η.map .int)),k0c s,some (.sh (SP η s)),some (.sh (dN M)),none,none]) (r2:=η.map .int) (r0:=η.map .int) rfl (c9 y0) rfl (zq3 p η hr) rfl) (c9 y0))) e0)).trans rfl) ?_
 show seqI (ρ':=envK (some (.ob p (η.map .int))) η s M U V [Z.length]) (by delta d3;rw[v7 (z7 (xw2 _ U V Z rfl a2) y0) i1];rfl) ?_
 show seqI ew ?_
 delta zy9
 rfl
theorem zo1 {v:Int}:∀(xs:List Int)(j:Nat),xs[j]? =some v->(∀ m,m<j->xs[m]? ≠some v)->idxI v xs=some j
 |[],j,h,_=>by ext h
 |x::xs,0,h,_=>by
  have:x=v:=by simpa using h
  rw[idxI,if_pos this]
 |x::xs,j+1,h,hm=>by
  have G:=hm 0 (by lia)
  have:x≠v:=fun z=>G (by rw[z];rfl)
  rw[idxI,if_neg this,zo1 xs j (by simpa using h) fun m i=>by simpa using hm (m+1) (by lia)]
  rfl
theorem xx1 {η:List Int}{s:Int}(hs:1<=s)(hr:η.length<=300)(T:Nat)(hT:T<=310)(top:∀ t l,Tn (xr η) η.length s t l->Tn (xr η) η.length s T l){ks:List Nat}(G:Kpt η s ks):zp4 [RI η,.int s,dN T]=some (.fr (ks.map dN)):=by
 let⟨vs,Y,N,ek⟩:=xr8 hs hr T hT
 have hm:∀ t k,Kt η s t k->k<=vs.getD T 0:=fun t k I=>by
  let⟨l,O,e⟩:=I
  let⟨m,hm,e2⟩:=N T (by lia)
  rw[<-e,<-e2]
  show hm.len l (top t l O.1)
 have hp:=G.pos
 have a1:ks.getD (ks.length-1) 0<=vs.getD T 0:=hm _ _ (G.at' _ (by lia))
 have a2:vs.getD T 0<=ks.getD (ks.length-1) 0:=G.last _ _ (N T (by lia))
 have O:ks.length<=T+1:=by
  rcases Nat.lt_or_ge (T+1) ks.length with z|z
  .have h1:=G.less T z
   have h2:=Kt.uniq (G.at' T (by lia)) (N T (by lia))
   lia
  .exact z
 have same:∀ i,i<ks.length->vs.getD i 0=ks.getD i 0:=fun i hi=>Kt.uniq (N i (by lia)) (G.at' i hi)
 have pre:ks=vs.take ks.length:=by
  apply ext_getElem
  .rw[length_take];lia
  .intro i h1 h2
   have:=same i h1
   rw[getElem_take]
   rw[getD_eq_getElem?_getD,getElem?_eq_getElem (by lia),getD_eq_getElem?_getD,getElem?_eq_getElem h1]at this
   show this.symm
 delta zp4 xp6
 show yu9 ?_
 show seqI (ρ':=[some (.sh (RI η)),k0c s,some (.sh (dN T)),some (.sh (L vs))]) ((Y8 (t7 (ek fun ds e=>j8 (E4 (z7 (d:=RI η) rfl (z7 (d:=.int s) rfl (z7 (d:=dN T) rfl y0))) e)))).trans rfl) ?_
 have Z:mix (bvar 3) (m1 negD (mc (.int 1))) [some (.sh (RI η)),k0c s,some (.sh (dN T)),some (.sh (L vs))]=some (dN (vs.getD T 0)):=h8 (m:=bvar 3) (k:=-1) rfl rfl (by rw[yi4 vs (by lia),Y,Nat.add_sub_cancel])
 have U:∀ i,i<T+1->(vs.map fun(k:Nat)=>(k:Int))[i]? =some ((vs.getD i 0:Nat):Int):=fun i hi=>by
  rw[getElem?_map,getElem?_eq_getElem (by lia),getD_eq_getElem?_getD,getElem?_eq_getElem (by lia)];rfl
 have ei:yx9 (bvar 3) (mix (bvar 3) (m1 negD (mc (.int 1)))) [some (.sh (RI η)),k0c s,some (.sh (dN T)),some (.sh (L vs))]=some (.int ((ks.length-1:Nat):Int)):=by
  delta yx9
  rw[show bvar 3 [some (.sh (RI η)),k0c s,some (.sh (dN T)),some (.sh (L vs))]=some (vs.map dN)from rfl,Z]
  show (match O2 (vs.map dN)with |some ns=>if ns.length<=1000 then (idxI ((vs.getD T 0:Nat):Int) ns).map fun j=>D.int (j:Int)else none|none=>none)=_
  rw[dns vs,N8]
  simp only
  rw[if_pos (by simp;lia),zo1 _ (ks.length-1) ?_ ?_]
  .rfl
  .rw[U _ (by lia),same _ (by lia)]
   congr 2
   lia
  .intro m hmj z
   rw[U m (by lia),same m (by lia)]at z
   have h1:=G.less m (by lia)
   have:((ks.getD m 0:Nat):Int)=((vs.getD T 0:Nat):Int):=Option.some.inj z
   lia
 delta yp2 mcut
 have eo:G1 (m2 addD (yx9 (bvar 3) (mix (bvar 3) (m1 negD (mc (.int 1))))) (mc (.int 1))) [some (.sh (RI η)),k0c s,some (.sh (dN T)),some (.sh (L vs))]=some (some ((ks.length:Nat):Int)):=by
  delta G1
  rw[(k7 ei (b:=.int 1) rfl).trans (show addD (.int ((ks.length-1:Nat):Int)) (.int 1)=some (.int (((ks.length-1:Nat):Int)+1))from rfl),show ((ks.length-1:Nat):Int)+1=((ks.length:Nat):Int)by lia]
  rfl
 rw[eo]
 show ((some (cutL (vs.map dN) none (some ((ks.length:Nat):Int)))).map _)=_
 rw[E8,yk7,<-pre]
 rfl
end
section
theorem xs8 {x:ME}{ρ:Ro}{b:Bool}(h:x ρ=some (.bl b)):mtru x ρ=some b:=by delta mtru;rw[h];rfl
theorem xp2 {x:MB}{ρ:Ro}{b:Bool}(h:x ρ=some b):cnot x ρ=some (!b):=by delta cnot;rw[h];rfl
theorem zw4 {x:MEm}{ρ ρ1:Ro}{b:Bool}(h:x ρ=some (.bl b,ρ1)):Y7 x ρ=some (b,ρ1):=by delta Y7;rw[h]
theorem zz2 {x y:MBm}{ρ ρ1:Ro}(h:x ρ=some (true,ρ1)):G6 x y ρ=y ρ1:=by delta G6;rw[h]
theorem zg9 {x y:MBm}{ρ ρ1:Ro}(h:x ρ=some (false,ρ1)):G6 x y ρ=some (false,ρ1):=by delta G6;rw[h]
theorem xd6 {c:MB}{ρ:Ro}{b:Bool}(h:c ρ=some b):cpu c ρ=some (b,ρ):=by delta cpu;rw[h]
theorem zx1 {c:MBm}{x y:MS}{ρ ρ1:Ro}{b:Bool}(h:c ρ=some (b,ρ1)):mifm c x y ρ=(if b then x else y) ρ1:=by delta mifm;rw[h];ext b <;> rfl
theorem yd4 {i:Nat}{m:ME}{ρ:Ro}{ds:List D}{d:D}(h:ρ[i]? =some (some (.own ds)))(h2:m (ρ.set i (some (.sh (.lst ds))))=some d)(hn:noL d=true):B3 i m ρ=some d:=by
 delta B3;rw[h];simp only;rw[h2];simp only[hn,if_true]
theorem yy3 (xs:List Int)(I:xs.length<=1000):m_Z8 [.lst (xs.map .int)]=some (.sh (.bl true)):=by
 delta m_Z8 b_Z8
 show T8 (L6 (xr4 (a:=true) (b:=true) ?_ ?_))
 .delta misi
  show (kitB "list" "list").map D.bl=_
  rw[wy6];rfl
 .have e:X0 [none] (u6 (mvar 0)) (.nm 0) (cor (mtru (misi "bool" (mvar 0))) (cnot (mtru (misi "int" (mvar 0))))) (mc (.int 1)) (u0 1 [.lst (xs.map .int)])=some []:=by
   delta X0
   rw[j8 (m:=mvar 0) (ds:=xs.map .int) rfl,Option.bind_some]
   show(Z3 (f:=D.int) (p:=fun _=>false) (G:=fun _=>D.int 1) (fun _ ρ=>∃ o,ρ=[o]) (by
    rintro k ks ρ ⟨o,rfl⟩
    show⟨[k0c k],rfl,?_,fun z=>(by ext z),_,rfl⟩
    have j:misi "bool" (mvar 0) [k0c k]=some (.bl false):=by
     delta misi
     show (kitB "int" "bool").map D.bl=_
     rw[wy8];rfl
    have i:misi "int" (mvar 0) [k0c k]=some (.bl true):=by
     delta misi
     show (kitB "int" "int").map D.bl=_
     rw[wy7];rfl
    delta cor cnot mtru
    rw[j,i];rfl) xs _ [] ⟨none,rfl⟩ (w5 (by simp;lia))).trans ?_
   rw[zg4];rfl
  rw[yb5 e false];rfl
theorem xs4 (xs:List Int):X8 (xs.map .int)=true:=by
 induction xs with
 |nil=>rfl
 |cons x xs i=>rw[map_cons];show i
theorem zt3 {i:Bool}{x y:ML}{ρ:Ro}{xs:List Int}(h:x ρ=some (xs.map .int))(h2:y ρ=some (xs.map .int)):meqB i x y ρ=some (.bl (!i)):=by
 delta meqB eqFD;rw[h,h2,Option.bind_some,Option.bind_some,xd2 6];ext i <;> rfl
theorem za1 {η:List Int}{s:Int}(hs:1<=s)(hr:η.length<=300)(T:Nat)(O:T<=310)(top:∀ t l,Tn (xr η) η.length s t l->Tn (xr η) η.length s T l){ρ:Ro}{x y z G j:ME}(h1:x ρ=some (RI η))(h2:y ρ=some (.int s))(Z:G ρ=some (RI η))(Y:j ρ=some (.int s))(U:z ρ=some (dN T))(i:Bool):meqB i (u6 (n4 m_Z6 (z5 x (z5 y anil)))) (u6 (n4 zp4 (z5 G (z5 j (z5 z anil))))) ρ=some (.bl (!i)):=by
 let⟨ks,e,N⟩:=G3 η s hs hr
 have I:=xx1 hs hr T O top N
 rw[dns ks]at e I
 show zt3 (j8 (E4 (z7 h1 (z7 h2 y0)) e)) (j8 (E4 (z7 Z (z7 Y (z7 U y0))) I))
theorem zw3 (c k:Int):∃ c' k',∀ p,m_Z2 p (RL c k) []=some (.sh (.bl true),RL c' k'):=by
 let⟨x,j,i,U,O,ex⟩:=u9 c k 9 (by decide) (by decide)
 obtain⟨s,hs⟩:∃ s,s=4+x:=⟨_,rfl⟩
 let⟨η,G,z,l1,l2,⟨h,cg,W⟩,N⟩:=zk2 s (by lia) (by lia) j i
 show⟨G,z,fun p=>?_⟩
 delta m_Z2
 show Z5 ?_
 delta b_Z2
 show seqI (ρ':=[some (.ob p (RL j i)),k0c s,none]) ((n9 (f9 (m7 (d:=.int 4) rfl) (t5 ex rfl) (g:=.int (4+x)) rfl)).trans (by rw[hs];rfl)) ?_
 have e2:y8 yn0 0 (apu (z5 (mvar 1) anil)) [some (.ob p (RL j i)),k0c s,none]=some (RI η,[some (.ob p (RL G z)),k0c s,none]):=
  Q1 (r2:=RL j i) (r0:=RL j i) (ρ:=[some (.ob p (RL j i)),k0c s,none]) rfl (c9 (z7 (d:=.int s) rfl y0)) rfl (N p) rfl
 show seqI (ρ':=[some (.ob p (RL G z)),k0c s,some (.sh (RI η))]) ((n9 e2).trans rfl) ?_
 show Z0 (m7 (za1 (by lia) l2 9 (by decide) (fun t l I=>(W.turns (by lia) I).mono (by decide)) (t7 (m:=bvar 2) rfl) rfl rfl rfl rfl false)) rfl
theorem yi1:∀(its:List D)(c k:Int)(o:Option S)(acc:List Int),acc.length+its.length<=1000->∃(f:List Int)(c' k':Int)(o':Option S),f.length=acc.length+its.length/\
  c8 (y8 u4 1 (apu (z5 (mc (.int 40)) anil))) its [o,some (.own (RL c k))] (acc.map .int)=some (f.map .int,[o',some (.own (RL c' k'))])
 |[],c,k,o,acc,_=>⟨acc,c,k,o,by simp,rfl⟩
 |i::its,c,k,o,acc,h=>by
  let⟨x,z,j,_,_,e⟩:=u9 c k 40 (by decide) (by decide)
  let⟨f,c',k',o',I,e2⟩:=yi1 its z j (some (.sh i)) (acc++[x]) (by simp at h ⊢;lia)
  show⟨f,c',k',o',by rw[I];simp;lia,?_⟩
  rw[c8]
  have e3:y8 u4 1 (apu (z5 (mc (.int 40)) anil)) [some (.sh i),some (.own (RL c k))]=some (.int x,[some (.sh i),some (.own (RL z j))]):=
   f7 (r0:=RL c k) (r2:=RL c k) rfl (c9 (z7 (d:=.int 40) rfl y0)) rfl e rfl
  show (match y8 u4 1 (apu (z5 (mc (.int 40)) anil)) [some (.sh i),some (.own (RL c k))]with |some (x,ρ1)=>if (acc.map D.int).length<sizeLine then c8 _ its ρ1 (acc.map D.int++[x])else none|none=>none)=_
  rw[e3]
  have G:(acc.map D.int).length<sizeLine:=by
   have:=n5
   rw[length_map];simp at h;lia
  simp only[G,if_true]
  rw[map_append]at e2
  show e2
theorem zf1 (c k:Int):∃(fs:List Int)(c' k':Int),fs.length<=300/\∀ p,m_Z9 p (RL c k) []=some (.sh (RI fs),RL c' k'):=by
 let⟨n,Y,N,n0,n1,en⟩:=u9 c k 40 (by decide) (by decide)
 have hn:okR (1+n)=true:=Y4 (by lia) (by lia)
 let⟨bs,U,I,o',lb,e2⟩:=yi1 (g9 0 (1+n).toNat) Y N none [] (by delta g9;simp;lia)
 have Z:bs.length=(1+n).toNat:=by rw[lb];delta g9;simp
 let⟨m,O,j,m0,m1,em⟩:=u9 U I 21 (by decide) (by decide)
 have hm:okR (100+m)=true:=Y4 (by lia) (by lia)
 have i2:0+1+1<=sizeLine:=w5 (by decide)
 show⟨(List.range (100+m).toNat).map fun i=>bs.getD (i % bs.length) 0+(if i % 2=0 then 0 else 30),O,j,by simp;lia,fun p=>?_⟩
 delta m_Z9
 show Z5 ?_
 delta b_Z9
 have ec:Z1 [none,some 0] (K9 rng1 (j3 (m2m addD (mpu (mc (.int 1))) (y8 u4 0 (apu (z5 (mc (.int 40)) anil)))) (apu anil))) 0 1 (y8 u4 1 (apu (z5 (mc (.int 40)) anil))) [some (.ob p (RL c k)),none,none]=some (RI bs,[some (.ob p (RL U I)),none,none]):=by
  have ea:j3 (m2m addD (mpu (mc (.int 1))) (y8 u4 0 (apu (z5 (mc (.int 40)) anil)))) (apu anil) [some (.ob p (RL c k)),none,none]=some ([.int (1+n)],[some (.ob p (RL Y N)),none,none]):=i6 (f9 (m7 (d:=.int 1) rfl) (t5 en rfl) (g:=.int (1+n)) rfl) (c9 y0)
  delta Z1 K9
  rw[ea]
  simp only
  rw[P7 hn]
  simp only
  show(L8 (its:=g9 0 (1+n).toNat) (r0:=RL Y N) (rr:=p) rfl rfl e2 rfl).trans rfl
 show seqI (ρ':=[some (.ob p (RL U I)),some (.sh (RI bs)),none]) ((n9 ec).trans rfl) ?_
 show seqI (ρ':=[some (.ob p (RL O j)),some (.sh (RI bs)),some (.sh (.int (100+m)))]) ((n9 (f9 (m7 (d:=.int 100) rfl) (t5 em rfl) (g:=.int (100+m)) rfl)).trans rfl) ?_
 show Z0 (m7 (t7 ?_)) rfl
 have ei:t9 rng1 (z5 (mvar 2) anil) [some (.ob p (RL O j)),some (.sh (RI bs)),some (.sh (.int (100+m)))]=some ((List.range (100+m).toNat).map dN):=by
  delta t9
  rw[z7 (d:=.int (100+m)) rfl y0,Option.bind_some,P7 hm,N1,map_map];rfl
 rw[zu7 ei]
 show(U9 (f:=dN) (G:=fun i=>D.int (bs.getD (i % bs.length) 0+(if i % 2=0 then 0 else 30))) (fun _ ρ=>∃ o,ρ=[o,some (.sh (RI bs))]) (by
  rintro i is ρ ⟨o,rfl⟩
  show⟨[some (.sh (dN i)),some (.sh (RI bs))],rfl,rfl,?_,_,rfl⟩
  have el:mlen (bvar 1) [some (.sh (dN i)),some (.sh (RI bs))]=some (.int (bs.length:Int)):=by rw[W9 (show bvar 1 _=some (bs.map .int)from rfl),length_map]
  have e1:m2 modD (mvar 0) (mlen (bvar 1)) [some (.sh (dN i)),some (.sh (RI bs))]=some (dN (i % bs.length)):=by
   rw[k7 (a:=dN i) rfl el]
   show (if zu2 (i:Int) (bs.length:Int)=true then some (D.int ((i:Int) % (bs.length:Int)))else none)=_
   rw[if_pos (W4 _ _ (by lia))]
   rfl
  have e2:m2 modD (mvar 0) (mc (.int 2)) [some (.sh (dN i)),some (.sh (RI bs))]=some (dN (i % 2)):=by
   rw[k7 (a:=dN i) (b:=.int 2) rfl rfl]
   show (if zu2 (i:Int) 2=true then some (D.int ((i:Int) % 2))else none)=_
   rw[if_pos (W4 _ _ (by decide))]
   rfl
  have e3:mix (w8 (z5 (mc (.int 0)) (z5 (mc (.int 30)) anil))) (m2 modD (mvar 0) (mc (.int 2))) [some (.sh (dN i)),some (.sh (RI bs))]=some (.int (if i % 2=0 then 0 else 30)):=by
   show h8 (v7 (z7 (d:=.int 0) rfl (z7 (d:=.int 30) rfl y0)) i2) e2 ?_
   have:i % 2=0\/i % 2=1:=by lia
   rcases this with z|z <;> rw[z] <;> rfl
  show(k7 (h8 (m:=bvar 1) (ds:=bs.map .int) rfl e1 (zm3 bs (i % bs.length) (Nat.mod_lt _ (by lia)))) e3).trans rfl) _ _ [] ⟨none,rfl⟩ (w5 (by simp;lia))).trans ?_
 rw[nil_append,map_map]
 rfl
end
section
noncomputable def eJ (scr:D)(n:Nat)(c k:Int)(o3 o4 o5 o6 o7 o8 o9:Option S):Ro:=[some (.sh scr),some (.sh (dN n)),some (.own (RL c k)),o3,o4,o5,o6,o7,o8,o9]
section
variable {scr:D}{n:Nat}{o3 o4 o5 o6 o7 o8 o9:Option S}
theorem yq6 {c k m x c' k':Int}{e:ME}(h:Nx c k m x c' k')(i:e (eJ scr n c k o3 o4 o5 o6 o7 o8 o9)=some (.int m)):y8 u4 2 (apu (z5 e anil)) (eJ scr n c k o3 o4 o5 o6 o7 o8 o9)=some (.int x,eJ scr n c' k' o3 o4 o5 o6 o7 o8 o9):=
 f7 (r0:=RL c k) (r2:=RL c k) rfl (c9 (z7 i y0)) rfl h rfl
theorem t0_J {c k:Int}:cpu (v3 (m2 eqSD (mvar 1) (mc (.int 0)))) (eJ scr n c k o3 o4 o5 o6 o7 o8 o9)=some ((n:Int)==0,eJ scr n c k o3 o4 o5 o6 o7 o8 o9):=xd6 (Q6 ((k7 (a:=.int (n:Int)) (b:=.int 0) rfl rfl).trans rfl))
theorem yb2 (c k:Int):∃ c' k',mifm (G6 (cpu (v3 (m2 eqSD (mvar 1) (mc (.int 0))))) (G6 (Y7 (m2m eqSD (y8 u4 2 (apu (z5 (mc (.int 4)) anil))) (mpu (mc (.int 0))))) (yw5 (Y7 (y8 m_Z2 2 (apu anil)))))) (mret (mc (.bl false))) Y9 (eJ scr n c k o3 o4 o5 o6 o7 o8 o9)=some (.nx (eJ scr n c' k' o3 o4 o5 o6 o7 o8 o9)):=by
 have z:=t0_J (scr:=scr) (n:=n) (c:=c) (k:=k) (o3:=o3) (o4:=o4) (o5:=o5) (o6:=o6) (o7:=o7) (o8:=o8) (o9:=o9)
 cases hn:(n:Int)==0 with
 |false=>
  rw[hn]at z
  show⟨c,k,(zx1 (zg9 z)).trans rfl⟩
 |true=>
  rw[hn]at z
  let⟨x,j,i,_,_,ex⟩:=u9 c k 4 (by decide) (by decide)
  have G:Y7 (m2m eqSD (y8 u4 2 (apu (z5 (mc (.int 4)) anil))) (mpu (mc (.int 0)))) (eJ scr n c k o3 o4 o5 o6 o7 o8 o9)=some (x==0,eJ scr n j i o3 o4 o5 o6 o7 o8 o9):=zw4 (f9 (yq6 ex rfl) (m7 (d:=.int 0) rfl) (g:=.bl (x==0)) rfl)
  cases hx:x==0 with
  |false=>
   rw[hx]at G
   show⟨j,i,(zx1 ((zz2 z).trans (zg9 G))).trans rfl⟩
  |true=>
   rw[hx]at G
   let⟨N,I,U⟩:=zw3 j i
   have e2:y8 m_Z2 2 (apu anil) (eJ scr n j i o3 o4 o5 o6 o7 o8 o9)=some (.bl true,eJ scr n N I o3 o4 o5 o6 o7 o8 o9):=f7 (r0:=RL j i) (r2:=RL j i) rfl (c9 y0) rfl U rfl
   have O:yw5 (Y7 (y8 m_Z2 2 (apu anil))) (eJ scr n j i o3 o4 o5 o6 o7 o8 o9)=some (false,eJ scr n N I o3 o4 o5 o6 o7 o8 o9):=by
    delta yw5
    rw[zw4 e2]
    rfl
   show⟨N,I,(zx1 ((zz2 z).trans ((zz2 G).trans O))).trans rfl⟩
theorem xy5 {m:ML}{ρ:Ro}{xs:List Int}(h:m ρ=some (xs.map .int)):mlen m ρ=some (dN xs.length):=by rw[W9 h,length_map];rfl
theorem yu4 (c k:Int):∃ c' k' U,mifm (G6 (cpu (v3 (m2 eqSD (mvar 1) (mc (.int 0))))) (Y7 (m2m eqSD (y8 u4 2 (apu (z5 (mc (.int 6)) anil))) (mpu (mc (.int 0)))))) (mseq (Z6 3 (y8 m_Z9 2 (apu anil))) (mif (v3 (meqB true (u6 (n4 m_Z6 (z5 (mlst (bvar 3)) (z5 (mc (.int 5)) anil)))) (u6 (n4 zp4 (z5 (mvar 3) (z5 (mc (.int 5)) (z5 (mlen (bvar 3)) anil))))))) (mret (mc (.bl false))) Y9)) Y9 (eJ scr n c k o3 o4 o5 o6 o7 o8 o9)=some (.nx (eJ scr n c' k' U o4 o5 o6 o7 o8 o9)):=by
 have z:=t0_J (scr:=scr) (n:=n) (c:=c) (k:=k) (o3:=o3) (o4:=o4) (o5:=o5) (o6:=o6) (o7:=o7) (o8:=o8) (o9:=o9)
 cases hn:(n:Int)==0 with
 |false=>
  rw[hn]at z
  show⟨c,k,o3,(zx1 (zg9 z)).trans rfl⟩
 |true=>
  rw[hn]at z
  let⟨x,j,i,_,_,ex⟩:=u9 c k 6 (by decide) (by decide)
  have G:Y7 (m2m eqSD (y8 u4 2 (apu (z5 (mc (.int 6)) anil))) (mpu (mc (.int 0)))) (eJ scr n c k o3 o4 o5 o6 o7 o8 o9)=some (x==0,eJ scr n j i o3 o4 o5 o6 o7 o8 o9):=zw4 (f9 (yq6 ex rfl) (m7 (d:=.int 0) rfl) (g:=.bl (x==0)) rfl)
  cases hx:x==0 with
  |false=>
   rw[hx]at G
   show⟨j,i,o3,(zx1 ((zz2 z).trans G)).trans rfl⟩
  |true=>
   rw[hx]at G
   let⟨I,O,N,lb,Z⟩:=zf1 j i
   show⟨O,N,some (.sh (RI I)),(zx1 ((zz2 z).trans G)).trans ?_⟩
   rw[if_pos rfl]
   show seqI (ρ':=eJ scr n O N (some (.sh (RI I))) o4 o5 o6 o7 o8 o9) ((n9 (f7 (ρ:=eJ scr n j i o3 o4 o5 o6 o7 o8 o9) (r0:=RL j i) (r2:=RL j i) rfl (c9 y0) rfl Z rfl)).trans rfl) ?_
   rw[U4 (Q6 (za1 (η:=I) (s:=5) (by decide) lb I.length (by lia) (fun t l Y=>Y.all) (t7 (m:=bvar 3) rfl) rfl rfl rfl (xy5 (m:=bvar 3) rfl) true))]
   rfl
end
theorem xg7 (scr:D)(n:Nat)(c k:Int)(o3 o4 o5 o6 o7 o8 o9:Option S):∃(m:Nat)(c' k':Int),m<=90/\m2m ixLD (mpu (mlst (w8 (z5 (mc (.int 30)) (z5 (mc (.int 90)) anil))))) (J6 intF (j3 (zp3 (mpu (m2 eqSD (mvar 1) (mc (.int 0)))) (m2m eqSD (y8 u4 2 (apu (z5 (mc (.int 4)) anil))) (mpu (mc (.int 0))))) (apu anil))) (eJ scr n c k o3 o4 o5 o6 o7 o8 o9)=some (dN m,eJ scr n c' k' o3 o4 o5 o6 o7 o8 o9):=by
 have i2:0+1+1<=sizeLine:=w5 (by decide)
 have e1:mpu (mlst (w8 (z5 (mc (.int 30)) (z5 (mc (.int 90)) anil)))) (eJ scr n c k o3 o4 o5 o6 o7 o8 o9)=some (.lst [.int 30,.int 90],eJ scr n c k o3 o4 o5 o6 o7 o8 o9):=m7 (t7 (v7 (z7 (d:=.int 30) rfl (z7 (d:=.int 90) rfl y0)) i2))
 have ek:mpu (m2 eqSD (mvar 1) (mc (.int 0))) (eJ scr n c k o3 o4 o5 o6 o7 o8 o9)=some (.bl ((n:Int)==0),eJ scr n c k o3 o4 o5 o6 o7 o8 o9):=m7 ((k7 (a:=.int (n:Int)) (b:=.int 0) rfl rfl).trans rfl)
 have fin:∀{b:Bool}{c' k':Int},zp3 (mpu (m2 eqSD (mvar 1) (mc (.int 0)))) (m2m eqSD (y8 u4 2 (apu (z5 (mc (.int 4)) anil))) (mpu (mc (.int 0)))) (eJ scr n c k o3 o4 o5 o6 o7 o8 o9)=some (.bl b,eJ scr n c' k' o3 o4 o5 o6 o7 o8 o9)->∃(m:Nat)(c' k':Int),m<=90/\m2m ixLD (mpu (mlst (w8 (z5 (mc (.int 30)) (z5 (mc (.int 90)) anil))))) (J6 intF (j3 (zp3 (mpu (m2 eqSD (mvar 1) (mc (.int 0)))) (m2m eqSD (y8 u4 2 (apu (z5 (mc (.int 4)) anil))) (mpu (mc (.int 0))))) (apu anil))) (eJ scr n c k o3 o4 o5 o6 o7 o8 o9)=some (dN m,eJ scr n c' k' o3 o4 o5 o6 o7 o8 o9):=fun{b c' k'} h=>by
  show⟨if b then 90 else 30,c',k',by split <;> lia,?_⟩
  show f9 e1 (yj7 (i6 h (c9 y0)) (d:=.int (if b then 1 else 0)) rfl) ?_
  ext b <;> rfl
 cases hn:(n:Int)==0 with
 |false=>
  rw[hn]at ek
  show fin (b:=false) (c':=c) (k':=k) (by delta zp3;rw[ek])
 |true=>
  rw[hn]at ek
  let⟨x,j,i,_,_,ex⟩:=u9 c k 4 (by decide) (by decide)
  show fin (b:=x==0) (c':=j) (k':=i) (by delta zp3;rw[ek];show f9 (yq6 ex rfl) (m7 (d:=.int 0) rfl) (g:=.bl (x==0)) rfl)
theorem yv8 (scr:D)(n:Nat)(c k:Int)(η:List Int)(s:Int)(hr:η.length<=300)(ks:List Nat)(G:ks.length<=400)(z:∀ p,m_Z0 p (η.map .int) [.int s]=some (.fr (ks.map dN),η.map .int))(o3 o8 o9:Option S):∃ i,D0 (eJ scr n c k o3 (some (.sh (RI η))) (k0c s) (some (.sh (L ks))) (some (.own (η.map .int))) o8 o9)=some (.nx (eJ scr n c k o3 (some (.sh (RI η))) (k0c s) (some (.sh (L ks))) (some (.own (η.map .int))) o8 i)):=by
 show⟨some (.own (ks.map dN++[.int 0])),?_⟩
 delta D0
 show seqI (ρ':=eJ scr n c k o3 (some (.sh (RI η))) (k0c s) (some (.sh (L ks))) (some (.own (η.map .int))) o8 (some (.own (ks.map dN)))) ((yp0 (r0:=η.map .int) (ds:=[.int s]) rfl (z7 (d:=.int s) rfl y0) z (xs4 η) rfl (yq5 ks)).trans rfl) ?_
 have w:B3 9 (n4 m_Z8 (z5 (mvar 9) anil)) (eJ scr n c k o3 (some (.sh (RI η))) (k0c s) (some (.sh (L ks))) (some (.own (η.map .int))) o8 (some (.own (ks.map dN))))=some (.bl true):=by
  show yd4 (ds:=ks.map dN) rfl (g6 (z7 (d:=.lst (ks.map dN)) rfl y0) ?_) rfl
  rw[dns ks]
  show yy3 _ (by simp;lia)
 have t:cor (cnot (mtru (B3 9 (n4 m_Z8 (z5 (mvar 9) anil))))) (cor (v3 (meqB true (bvar 9) (bvar 6))) (v3 (meqB true (bvar 7) (bvar 4)))) (eJ scr n c k o3 (some (.sh (RI η))) (k0c s) (some (.sh (L ks))) (some (.own (η.map .int))) o8 (some (.own (ks.map dN))))=some false:=
  xx3 (a:=false) (b:=false) (xp2 (xs8 w)) (xx3 (a:=false) (b:=false) (Q6 (zt3 (xs:=ks.map fun(k:Nat)=>(k:Int)) (by rw[<-dns ks];rfl) (by rw[<-dns ks];rfl))) (Q6 (zt3 (xs:=η) rfl rfl)))
 show seqI (ρ':=eJ scr n c k o3 (some (.sh (RI η))) (k0c s) (some (.sh (L ks))) (some (.own (η.map .int))) o8 (some (.own (ks.map dN)))) (by rw[U4 t];rfl) ?_
 have j:(ks.map dN).length<sizeLine:=Nat.lt_of_lt_of_le (show (ks.map dN).length<1000 by rw[length_map];lia) (Nat.le_trans (by decide) n5)
 delta mapp
 show ((some (D.int 0)).bind fun d=>if (ks.map dN).length<sizeLine then _ else none)=_
 rw[Option.bind_some,if_pos j]
 rfl
theorem xj8 (scr:D)(n:Nat)(c:Int)(o3 o4 o5 o6 o7 o8 o9:Option S):∃ c' k' i p4 p5 p6 p7 p8 p9,S2 (eJ scr n c 0 o3 o4 o5 o6 o7 o8 o9)=some (.nx (eJ scr n c' k' i p4 p5 p6 p7 p8 p9)):=by
 let⟨c1,k1,e1⟩:=yb2 (scr:=scr) (n:=n) (o3:=o3) (o4:=o4) (o5:=o5) (o6:=o6) (o7:=o7) (o8:=o8) (o9:=o9) c 0
 let⟨O,N,i,e2⟩:=yu4 (scr:=scr) (n:=n) (o3:=o3) (o4:=o4) (o5:=o5) (o6:=o6) (o7:=o7) (o8:=o8) (o9:=o9) c1 k1
 let⟨m,c3,Y,hm,e3⟩:=xg7 scr n O N i o4 o5 o6 o7 o8 o9
 let⟨η,I,G,Z,e4⟩:=zk5 c3 Y m (by lia)
 let⟨s,z,j,hs,_,e5⟩:=zs7 I G
 let⟨ks,hk,e9⟩:=yc5 η s hs (by lia)
 have ed:=xx1 hs (by lia) η.length (by lia) (fun t l Z=>Z.all) hk
 have hf:=hk.few
 let⟨U,f1⟩:=yv8 scr n z j η s (by lia) ks (by lia) e9 i (some (.sh (.int 0))) o9
 let⟨r9,f2⟩:=yv8 scr n z j η s (by lia) ks (by lia) e9 i (some (.sh (.int 1))) U
 show⟨z,j,i,some (.sh (RI η)),k0c s,some (.sh (L ks)),some (.own (η.map .int)),some (.sh (.int 1)),r9,?_⟩
 delta S2
 show seqI e1 (seqI e2 ?_)
 show seqI (ρ':=eJ scr n I G i (some (.sh (RI η))) o5 o6 o7 o8 o9) ((n9 (f7 (ρ:=eJ scr n O N i o4 o5 o6 o7 o8 o9) (r0:=RL c3 Y) (r2:=RL O N) rfl (i6 e3 (c9 y0)) rfl e4 rfl)).trans rfl) ?_
 show seqI (ρ':=eJ scr n z j i (some (.sh (RI η))) (k0c s) o6 o7 o8 o9) ((n9 (f7 (ρ:=eJ scr n I G i (some (.sh (RI η))) o5 o6 o7 o8 o9) (r0:=RL I G) (r2:=RL I G) rfl (c9 y0) rfl e5 rfl)).trans rfl) ?_
 show seqI (ρ':=eJ scr n z j i (some (.sh (RI η))) (k0c s) (some (.sh (L ks))) o7 o8 o9) ((Y8 (E4 (z7 (d:=RI η) rfl (z7 (d:=.int s) rfl (z7 (xy5 (m:=bvar 4) (xs:=η) rfl) y0))) ed)).trans rfl) ?_
 show seqI (ρ':=eJ scr n z j i (some (.sh (RI η))) (k0c s) (some (.sh (L ks))) (some (.own (η.map .int))) o8 o9) (by delta d3;rfl) ?_
 delta mfor t9
 rw[z7 (d:=.int 2) rfl y0,Option.bind_some,P7 (Y4 (by decide) (by decide)),Option.bind_some]
 show forD (.nm 8) D0 [.int 0,.int 1] _=_
 rw[zg0 (ρ1:=eJ scr n z j i (some (.sh (RI η))) (k0c s) (some (.sh (L ks))) (some (.own (η.map .int))) (some (.sh (.int 0))) o9) rfl f1,zg0 (ρ1:=eJ scr n z j i (some (.sh (RI η))) (k0c s) (some (.sh (L ks))) (some (.own (η.map .int))) (some (.sh (.int 1))) U) rfl f2]
 rfl
theorem zo3 {scr:D}:∀(j:List Int)(n:Nat)(ρ:Ro),(∃ G z o3 o4 o5 o6 o7 o8 o9,ρ=[some (.sh scr),G,z,o3,o4,o5,o6,o7,o8,o9])->∃ ρ',A4 1 2 S2 n (j.map fun c=>RL c 0) ρ=some (.nx ρ')
 |[],n,ρ,_=>⟨ρ,rfl⟩
 |c::j,n,ρ,h=>by
  let⟨G,z,o3,o4,o5,o6,o7,o8,o9,rfl⟩:=h
  let⟨c',k',p3,Z,Y,U,O,N,I,e⟩:=xj8 scr n c o3 o4 o5 o6 o7 o8 o9
  let⟨ρ',e2⟩:=zo3 j (n+1) (eJ scr n c' k' p3 Z Y U O N I) ⟨_,_,_,_,_,_,_,_,_,rfl⟩
  show⟨ρ',?_⟩
  rw[map_cons,A4]
  show (match S2 (eJ scr n c 0 o3 o4 o5 o6 o7 o8 o9)with |some (.nx i)=>A4 1 2 S2 (n+1) (j.map fun c=>RL c 0) i|some (.ct i)=>A4 1 2 S2 (n+1) (j.map fun c=>RL c 0) i|some (.bk i)=>some (Out.nx i)|o=>o)=_
  rw[e]
  show e2
theorem law_true (ns:List Int)(hn:ns.length<=63):zh4 [.lst (ns.map .int)]=some (.sh (.bl true)):=by
 delta zh4 xp5
 show T8 ?_
 have j:mlst (mcut (bvar 0) zv7 (G1 (mc (.int 3)))) (u0 10 [.lst (ns.map .int)])=some (.lst ((cutI ns none (some 3)).map .int)):=by
  show t7 ?_
  delta mcut
  show congrArg some (E8 D.int ns none (some 3))
 have z:=yz2 ns none (some 3)
 let⟨i,e⟩:=xu1 (cutI ns none (some 3)) (by lia)
 let⟨ρ',e2⟩:=zo3 i 0 (u0 10 [.lst (ns.map .int)]) ⟨_,_,_,_,_,_,_,_,_,rfl⟩
 show seqI (ρ':=ρ') ?_ rfl
 delta zb3 zb6
 rw[z7 j y0,Option.bind_some,e,Option.bind_some]
 show e2
end
end Lw
namespace Lw
open List
open PySem L2
open PyProof.Rows
section
noncomputable def top (i:Nat):Stmt:=PySem.Challenge.pw_wavyrow_k27_kept_by_turns.main.body.getD i (.Pass ⟨0,0,0,0⟩)
section
variable (P:Program)(w:World)(K:W.Frag)(mg:Str->Option Value)(base:Heap)
noncomputable abbrev xn2:Prop:=QHd P w K mg base 1 "refuse_step" ["step"] (spR K 1 yo8)
noncomputable abbrev xc4:Prop:=QHd P w K mg base 1 "later_steps" ["row","step"] (spR K 2 yo9)
noncomputable abbrev T_Z4:Prop:=QHd P w K mg base 1 "later_steps" ["row","step"] (spG K 2 m_Z4)
noncomputable abbrev xn3:Prop:=QHd P w K mg base 1 "longer_first" ["places"] (spR K 1 L9)
noncomputable abbrev T_Z3:Prop:=QHd P w K mg base 1 "longest_behind" ["tails","laters"] (spR K 2 m_Z3)
noncomputable abbrev T_Z5:Prop:=QHd P w K mg base 3 "one_turn_more" ["steps","fewer"] (spR K 2 m_Z5)
noncomputable abbrev xc2:Prop:=QHd P w K mg base 1 "no_tails" ["row"] (spR K 1 yd8)
noncomputable abbrev xc3:Prop:=QHd P w K mg base 1 "no_tails" ["row"] (spG K 1 yd9)
noncomputable abbrev xn4:Prop:=QHd P w K mg base 3 "longest_tail" ["tails"] (spR K 1 zu8)
noncomputable abbrev xn5:Prop:=QHd P w K mg base 1 "most_stepped" ["steps"] (spR K 1 yc1)
noncomputable abbrev T_Z6:Prop:=QHd P w K mg base 4 "kept_by_turns" ["row","step"] (spR K 2 m_Z6)
noncomputable abbrev T_Z0:Prop:=QHd P w K mg base 4 "kept_by_turns" ["row","step"] (spG K 2 m_Z0)
noncomputable abbrev zm7:Prop:=QHd P w K mg base 1 "_law_next" ["pot","many"] (spG K 2 u4)
noncomputable abbrev zx9:Prop:=QHd P w K mg base 1 "_law_pots" ["script"] (spP K 1 Q8)
noncomputable abbrev T_Z1:Prop:=QHd P w K mg base 2 "_law_some_number" ["pot","kind"] (spG K 2 m_Z1)
noncomputable abbrev xc6:Prop:=QHd P w K mg base 3 "_law_some_row" ["pot","most"] (spG K 2 yc0)
noncomputable abbrev T_Z7:Prop:=QHd P w K mg base 2 "_law_some_step" ["pot"] (spG K 1 m_Z7)
noncomputable abbrev J7:Prop:=QHd P w K mg base 1 "_law_tables" ["row","step","turns"] (spR K 3 Z2)
noncomputable abbrev xc1:Prop:=QHd P w K mg base 1 "_law_most" ["table"] (spR K 1 zp5)
noncomputable abbrev T_Z8:Prop:=QHd P w K mg base 1 "_law_are_whole" ["told"] (spR K 1 m_Z8)
noncomputable abbrev xc5:Prop:=QHd P w K mg base 2 "_law_wide_row" ["pot","step"] (spG K 2 yn0)
noncomputable abbrev xn1:Prop:=QHd P w K mg base 2 "_law_due" ["row","step","turns"] (spR K 3 zp4)
noncomputable abbrev T_Z2:Prop:=QHd P w K mg base 5 "_law_wide_right" ["pot"] (spG K 1 m_Z2)
noncomputable abbrev T_Z9:Prop:=QHd P w K mg base 2 "_law_bent_row" ["pot"] (spG K 1 m_Z9)
end
noncomputable abbrev Zs (mg:Str->Option Value):Prop:=mg "abs"=none/\mg "bool"=none/\mg "enumerate"=none/\mg "int"=none/\mg "isinstance"=none/\mg "len"=none/\mg "list"=none/\mg "max"=none/\mg "min"=none/\mg "range"=none/\mg "reversed"=none/\mg "sorted"=none/\True
theorem xb4 {mg:Str->Option Value}(Z:Zs mg):mg "abs"=none:=Z.1
theorem xn8 {mg:Str->Option Value}(Z:Zs mg):mg "bool"=none:=Z.2.1
theorem T7 {mg:Str->Option Value}(Z:Zs mg):mg "enumerate"=none:=Z.2.2.1
theorem xx5 {mg:Str->Option Value}(Z:Zs mg):mg "int"=none:=Z.2.2.2.1
theorem R0 {mg:Str->Option Value}(Z:Zs mg):mg "isinstance"=none:=Z.2.2.2.2.1
theorem h6 {mg:Str->Option Value}(Z:Zs mg):mg "len"=none:=Z.2.2.2.2.2.1
theorem ze3 {mg:Str->Option Value}(Z:Zs mg):mg "list"=none:=Z.2.2.2.2.2.2.1
theorem zm8 {mg:Str->Option Value}(Z:Zs mg):mg "max"=none:=Z.2.2.2.2.2.2.2.1
theorem yv1 {mg:Str->Option Value}(Z:Zs mg):mg "min"=none:=Z.2.2.2.2.2.2.2.2.1
theorem m8 {mg:Str->Option Value}(Z:Zs mg):mg "range"=none:=Z.2.2.2.2.2.2.2.2.2.1
theorem zy1 {mg:Str->Option Value}(Z:Zs mg):mg "reversed"=none:=Z.2.2.2.2.2.2.2.2.2.2.1
theorem yh3 {mg:Str->Option Value}(Z:Zs mg):mg "sorted"=none:=Z.2.2.2.2.2.2.2.2.2.2.2.1
variable {P:Program}{w:World}{K:W.Frag}{mg:Str->Option Value}{base:Heap}
noncomputable abbrev xv0:Stmt:=top 4
noncomputable abbrev ww6:List Str:=["step"]
theorem xk7:FnScope ww6 ["step"] (z9 xv0):=qsc
theorem xh9 (D:QDf K mg "refuse_step" xv0 ["step"]):xn2 P w K mg base:=
 D.mk fun f fd i=>i.okD (k:=0) (m:=xo0) xk7 fun cdv A outer s H E hr=>(y6 (R4 (j7 ye4 zc8 (z4 0 (pv 0)) z8 (u7 _)) (y6 yt6) i7))
noncomputable abbrev zk7:Stmt:=top 5
noncomputable abbrev yi9:List Str:=["row","step","above","below","place","number"]
theorem sc_Z15:FnScope yi9 ["row","step"] (z9 zk7):=qsc
theorem S8:List.Nodup (["later","step","number","row"]:List Str):=by decide +kernel
theorem S7:List.Nodup (["later","step","number","row"]:List Str):=by decide +kernel
theorem xg0 (D:QDf K mg "later_steps" zk7 ["row","step"])(Z:Zs mg):xc4 P w K mg base:=
 D.mk fun f fd z=>z.okD (k:=0) (m:=xo1) sc_Z15 fun cdv A outer s H E hr=>(z6 (j6 (i:=2) sc_Z15.nd rfl (Or.inl rfl) (v5 z3)) (z6 (j6 (i:=3) sc_Z15.nd rfl (Or.inl rfl) (v5 z3)) (z6 (D8 PassesOwn.never rfl (zc1 rfl (T7 Z) (z0 (z4 0 (pv 0)) z3)) (P9 (is:=[4,5]) (K6 rfl (n6 (x9 (i:=4) sc_Z15.nd rfl (Or.inl rfl)) (n6 (x9 (i:=5) sc_Z15.nd rfl (Or.inr rfl)) R5)))) (z6 (f6 (i:=2) (pv 2) (i9 (R6 (e7 (N:=["later","step","number","row"]) (src:=[none,some 1,some 5,some 0]) (z9 zk7) yi9 rfl rfl (by decide +kernel)) rfl (i8 rfl (m8 Z) (z0 (k6 (z4 4 (pv 4)) z8) (z0 (w9 rfl (h6 Z) (y7 0 (pv 0))) z3))) (fun C fp j H0=>(v4 (i:=0) (x9 S8 rfl (Or.inl rfl)))) (fun C fp j H0=>(Y0 (j7 zz8 P4 (S6 (m9 (y7 3 (pv 3)) (z4 0 (pv 0))) (z4 2 (pv 2))) (z4 1 (pv 1)) (u7 _)))) (fun C fp j H0=>(z4 0 (pv 0))))) (fun t ha=>qap (pv 2) ha) (z0 (i9 (R6 (e7 (N:=["later","step","number","row"]) (src:=[none,some 1,some 5,some 0]) (z9 zk7) yi9 rfl rfl (by decide +kernel)) rfl (i8 rfl (m8 Z) (z0 (k6 (z4 4 (pv 4)) z8) (z0 (w9 rfl (h6 Z) (y7 0 (pv 0))) z3))) (fun C fp j H0=>(v4 (i:=0) (x9 S8 rfl (Or.inl rfl)))) (fun C fp j H0=>(Y0 (j7 zz8 P4 (S6 (m9 (y7 3 (pv 3)) (z4 0 (pv 0))) (z4 2 (pv 2))) (z4 1 (pv 1)) (u7 _)))) (fun C fp j H0=>(z4 0 (pv 0))))) z3)) (y6 (f6 (i:=3) (pv 3) (i9 (R6 (e7 (N:=["later","step","number","row"]) (src:=[none,some 1,some 5,some 0]) (z9 zk7) yi9 rfl rfl (by decide +kernel)) rfl (i8 rfl (m8 Z) (z0 (k6 (z4 4 (pv 4)) z8) (z0 (w9 rfl (h6 Z) (y7 0 (pv 0))) z3))) (fun C fp j H0=>(v4 (i:=0) (x9 S7 rfl (Or.inl rfl)))) (fun C fp j H0=>(Y0 (j7 zz8 P4 (S6 (z4 2 (pv 2)) (m9 (y7 3 (pv 3)) (z4 0 (pv 0)))) (z4 1 (pv 1)) (u7 _)))) (fun C fp j H0=>(z4 0 (pv 0))))) (fun t ha=>qap (pv 3) ha) (z0 (i9 (R6 (e7 (N:=["later","step","number","row"]) (src:=[none,some 1,some 5,some 0]) (z9 zk7) yi9 rfl rfl (by decide +kernel)) rfl (i8 rfl (m8 Z) (z0 (k6 (z4 4 (pv 4)) z8) (z0 (w9 rfl (h6 Z) (y7 0 (pv 0))) z3))) (fun C fp j H0=>(v4 (i:=0) (x9 S7 rfl (Or.inl rfl)))) (fun C fp j H0=>(Y0 (j7 zz8 P4 (S6 (z4 2 (pv 2)) (m9 (y7 3 (pv 3)) (z4 0 (pv 0)))) (z4 1 (pv 1)) (u7 _)))) (fun C fp j H0=>(z4 0 (pv 0))))) z3))))) (g8 3 (g8 2 (y6 (a7 (zy7 (z0 (z4 2 (pv 2)) (z0 (z4 3 (pv 3)) z3))))))))))
noncomputable abbrev s_Z4:Stmt:=top 5
noncomputable abbrev N_Z4:List Str:=["row","step","above","below","place","number"]
theorem sc_Z4:FnScope N_Z4 ["row","step"] (z9 s_Z4):=qsc
theorem Y6:List.Nodup (["later","step","number","row"]:List Str):=by decide +kernel
theorem Y5:List.Nodup (["later","step","number","row"]:List Str):=by decide +kernel
theorem wy0 (D:QDf K mg "later_steps" s_Z4 ["row","step"])(Z:Zs mg):T_Z4 P w K mg base:=
 D.mk fun f fd z=>z.okGl (k:=0) (m:=b_Z4) sc_Z4 (by decide) fun cdv A outer s H E hr=>(z6 (j6 (i:=2) sc_Z4.nd rfl (Or.inl rfl) (v5 z3)) (z6 (j6 (i:=3) sc_Z4.nd rfl (Or.inl rfl) (v5 z3)) (z6 (yt9 PassesOwn.never rfl rfl (T7 Z) (pv 0) (P9 (is:=[4,5]) (K6 rfl (n6 (x9 (i:=4) sc_Z4.nd rfl (Or.inl rfl)) (n6 (x9 (i:=5) sc_Z4.nd rfl (Or.inr rfl)) R5)))) (z6 (f6 (i:=2) (pv 2) (i9 (F9 (N0 (by decide)) (e7 (N:=["later","step","number","row"]) (src:=[none,some 1,some 5,some 0]) (z9 s_Z4) N_Z4 rfl rfl (by decide +kernel)) rfl (i8 rfl (m8 Z) (z0 (k6 (z4 4 (pv 4)) z8) (z0 (w9 rfl (h6 Z) (y7 0 (pv 0))) z3))) (fun C fp j H0=>(v4 (i:=0) (x9 Y6 rfl (Or.inl rfl)))) (fun C fp j H0=>(Y0 (j7 zz8 P4 (S6 (m9 (y7 3 (pv 3)) (z4 0 (pv 0))) (z4 2 (pv 2))) (z4 1 (pv 1)) (u7 _)))) (fun C fp j H0=>(z4 0 (pv 0))))) (fun t ha=>qap (pv 2) ha) (z0 (i9 (F9 (N0 (by decide)) (e7 (N:=["later","step","number","row"]) (src:=[none,some 1,some 5,some 0]) (z9 s_Z4) N_Z4 rfl rfl (by decide +kernel)) rfl (i8 rfl (m8 Z) (z0 (k6 (z4 4 (pv 4)) z8) (z0 (w9 rfl (h6 Z) (y7 0 (pv 0))) z3))) (fun C fp j H0=>(v4 (i:=0) (x9 Y6 rfl (Or.inl rfl)))) (fun C fp j H0=>(Y0 (j7 zz8 P4 (S6 (m9 (y7 3 (pv 3)) (z4 0 (pv 0))) (z4 2 (pv 2))) (z4 1 (pv 1)) (u7 _)))) (fun C fp j H0=>(z4 0 (pv 0))))) z3)) (y6 (f6 (i:=3) (pv 3) (i9 (F9 (N0 (by decide)) (e7 (N:=["later","step","number","row"]) (src:=[none,some 1,some 5,some 0]) (z9 s_Z4) N_Z4 rfl rfl (by decide +kernel)) rfl (i8 rfl (m8 Z) (z0 (k6 (z4 4 (pv 4)) z8) (z0 (w9 rfl (h6 Z) (y7 0 (pv 0))) z3))) (fun C fp j H0=>(v4 (i:=0) (x9 Y5 rfl (Or.inl rfl)))) (fun C fp j H0=>(Y0 (j7 zz8 P4 (S6 (z4 2 (pv 2)) (m9 (y7 3 (pv 3)) (z4 0 (pv 0)))) (z4 1 (pv 1)) (u7 _)))) (fun C fp j H0=>(z4 0 (pv 0))))) (fun t ha=>qap (pv 3) ha) (z0 (i9 (F9 (N0 (by decide)) (e7 (N:=["later","step","number","row"]) (src:=[none,some 1,some 5,some 0]) (z9 s_Z4) N_Z4 rfl rfl (by decide +kernel)) rfl (i8 rfl (m8 Z) (z0 (k6 (z4 4 (pv 4)) z8) (z0 (w9 rfl (h6 Z) (y7 0 (pv 0))) z3))) (fun C fp j H0=>(v4 (i:=0) (x9 Y5 rfl (Or.inl rfl)))) (fun C fp j H0=>(Y0 (j7 zz8 P4 (S6 (z4 2 (pv 2)) (m9 (y7 3 (pv 3)) (z4 0 (pv 0)))) (z4 1 (pv 1)) (u7 _)))) (fun C fp j H0=>(z4 0 (pv 0))))) z3))))) (g8 3 (g8 2 (y6 (g0 0 (w4 (zy7 (z0 (z4 2 (pv 2)) (z0 (z4 3 (pv 3)) z3)))))))))))
noncomputable abbrev xv1:Stmt:=top 7
noncomputable abbrev ww7:List Str:=["places"]
theorem xk8:FnScope ww7 ["places"] (z9 xv1):=qsc
theorem xg3 (D:QDf K mg "longer_first" xv1 ["places"])(Z:Zs mg):xn3 P w K mg base:=
 D.mk fun f fd i=>i.okD (k:=0) (m:=zm2) xk8 fun cdv A outer s H E hr=>(y6 (a7 (zy7 (z0 (N4 (w9 rfl (h6 Z) (y7 0 (pv 0)))) (z0 (z4 0 (pv 0)) z3)))))
noncomputable abbrev s_Z3:Stmt:=top 9
noncomputable abbrev N_Z3:List Str:=["tails","laters"]
theorem xa5:FnScope N_Z3 ["tails","laters"] (z9 s_Z3):=qsc
theorem O0:List.Nodup (["later","tails"]:List Str):=by decide +kernel
theorem wy1 (D:QDf K mg "longest_behind" s_Z3 ["tails","laters"])(Z:Zs mg):T_Z3 P w K mg base:=
 D.mk fun f fd z=>z.okD (k:=0) (m:=b_Z3) xa5 fun cdv A outer s H E hr=>(y6 (a7 (ys9 rfl hr.units rfl (zm8 Z) rfl (h6 Z) (C1 (R6 (e7 (N:=["later","tails"]) (src:=[none,some 0]) (z9 s_Z3) N_Z3 rfl rfl (by decide +kernel)) rfl (P8 (z4 1 (pv 1))) (fun C fp j H0=>(v4 (i:=0) (x9 O0 rfl (Or.inl rfl)))) (fun C fp j H0=>W3) (fun C fp j H0=>(m9 (y7 1 (pv 1)) (z4 0 (pv 0)))))) (i9 (v5 z3)))))
noncomputable abbrev s_Z5:Stmt:=top 10
noncomputable abbrev N_Z5:List Str:=["steps","fewer","above","below","fewer_ups","fewer_downs","ups","downs","risen","fallen","place"]
theorem sc_Z5:FnScope N_Z5 ["steps","fewer"] (z9 s_Z5):=qsc
theorem wz9 (D:QDf K mg "one_turn_more" s_Z5 ["steps","fewer"])(I:xn3 P w K mg base)(G:T_Z3 P w K mg base)(Z:Zs mg):T_Z5 P w K mg base:=by
 let⟨N,d_Z12,z,zm2,O,j⟩:=I
 show D.mk fun f fd U=>U.okD (k:=2) (m:=b_Z5) sc_Z5 fun cdv A outer s H E hr=>(z6 (zv5 (S5 (z4 0 (pv 0)) (P9 (is:=[2,3]) (K6 rfl (n6 (x9 (i:=2) sc_Z5.nd rfl (Or.inl rfl)) (n6 (x9 (i:=3) sc_Z5.nd rfl (Or.inl rfl)) R5)))))) (z6 (zv5 (S5 (z4 1 (pv 1)) (P9 (is:=[4,5]) (K6 rfl (n6 (x9 (i:=4) sc_Z5.nd rfl (Or.inl rfl)) (n6 (x9 (i:=5) sc_Z5.nd rfl (Or.inl rfl)) R5)))))) (z6 (j6 (i:=6) sc_Z5.nd rfl (Or.inl rfl) (P3 (v5 (z0 (i9 (v5 z3)) z3)) (w9 rfl (h6 Z) (y7 2 (pv 2))))) (z6 (j6 (i:=7) sc_Z5.nd rfl (Or.inl rfl) (P3 (v5 (z0 (i9 (v5 z3)) z3)) (w9 rfl (h6 Z) (y7 2 (pv 2))))) (z6 (j6 (i:=8) sc_Z5.nd rfl (Or.inl rfl) (P3 (v5 (z0 (i9 (v5 z3)) z3)) (w9 rfl (h6 Z) (y7 2 (pv 2))))) (z6 (j6 (i:=9) sc_Z5.nd rfl (Or.inl rfl) (P3 (v5 (z0 (i9 (v5 z3)) z3)) (w9 rfl (h6 Z) (y7 2 (pv 2))))) (z6 (D8 PassesOwn.never rfl (zr9 rfl (zy1 Z) rfl (m8 Z) (z0 (w9 rfl (h6 Z) (y7 2 (pv 2))) z3)) (v4 (i:=10) (x9 sc_Z5.nd rfl (Or.inl rfl))) (z6 (Y2 (i:=6) (S5 (i9 (ys4 (C1 (v5 (z0 (z4 10 (pv 10)) z3))) (R7 (yr5 8 (u5 (fun t ha=>qcl G hr ha) rfl (z0 (z4 8 (pv 8)) (z0 (m9 (y7 2 (pv 2)) (z4 10 (pv 10))) z3)) qal2))))) (K7 (pv 6) (z4 10 (pv 10)) X9))) (z6 (Y2 (i:=7) (S5 (i9 (ys4 (C1 (v5 (z0 (z4 10 (pv 10)) z3))) (R7 (yr5 9 (u5 (fun t ha=>qcl G hr ha) rfl (z0 (z4 9 (pv 9)) (z0 (m9 (y7 3 (pv 3)) (z4 10 (pv 10))) z3)) qal2))))) (K7 (pv 7) (z4 10 (pv 10)) X9))) (z6 (Y2 (i:=8) (S5 (zc4 (zt0 (z.mono (by decide)) hr.in1 zm2) rfl hr.units rfl (yv1 Z) rfl j (z0 (m9 (y7 6 (pv 6)) (z4 10 (pv 10))) (z0 (m9 (y7 5 (pv 5)) (z4 10 (pv 10))) z3)) qal2) (K7 (pv 8) (z4 10 (pv 10)) X9))) (y6 (Y2 (i:=9) (S5 (zc4 (zt0 (z.mono (by decide)) hr.in1 zm2) rfl hr.units rfl (yv1 Z) rfl j (z0 (m9 (y7 7 (pv 7)) (z4 10 (pv 10))) (z0 (m9 (y7 4 (pv 4)) (z4 10 (pv 10))) z3)) qal2) (K7 (pv 9) (z4 10 (pv 10)) X9)))))))) (g8 6 (g8 7 (y6 (a7 (zy7 (z0 (z4 6 (pv 6)) (z0 (z4 7 (pv 7)) z3))))))))))))))
noncomputable abbrev xw9:Stmt:=top 11
noncomputable abbrev ww4:List Str:=["row"]
theorem xk5:FnScope ww4 ["row"] (z9 xw9):=qsc
theorem xh7 (D:QDf K mg "no_tails" xw9 ["row"])(Z:Zs mg):xc2 P w K mg base:=
 D.mk fun f fd i=>i.okD (k:=0) (m:=xp8) xk5 fun cdv A outer s H E hr=>(y6 (a7 (zy7 (z0 (i9 (P3 (v5 (z0 (i9 (v5 z3)) z3)) (w9 rfl (h6 Z) (y7 0 (pv 0))))) (z0 (i9 (P3 (v5 (z0 (i9 (v5 z3)) z3)) (w9 rfl (h6 Z) (y7 0 (pv 0))))) z3)))))
noncomputable abbrev xk9:Stmt:=top 11
noncomputable abbrev ww5:List Str:=["row"]
theorem xk6:FnScope ww5 ["row"] (z9 xk9):=qsc
theorem xh8 (D:QDf K mg "no_tails" xk9 ["row"])(Z:Zs mg):xc3 P w K mg base:=
 D.mk fun f fd i=>i.okGl (k:=0) (m:=xp9) xk6 (by decide) fun cdv A outer s H E hr=>(y6 (g0 0 (w4 (zy7 (z0 (i9 (P3 (v5 (z0 (i9 (v5 z3)) z3)) (w9 rfl (h6 Z) (y7 0 (pv 0))))) (z0 (i9 (P3 (v5 (z0 (i9 (v5 z3)) z3)) (w9 rfl (h6 Z) (y7 0 (pv 0))))) z3))))))
noncomputable abbrev xv2:Stmt:=top 12
noncomputable abbrev ww8:List Str:=["tails","ups","downs"]
theorem sc_Z11:FnScope ww8 ["tails"] (z9 xv2):=qsc
theorem xg4 (D:QDf K mg "longest_tail" xv2 ["tails"])(z:xn3 P w K mg base)(Z:Zs mg):xn4 P w K mg base:=by
 let⟨I,d_Z12,G,zm2,N,j⟩:=z
 show D.mk fun f fd O=>O.okD (k:=2) (m:=xo4) sc_Z11 fun cdv A outer s H E hr=>(z6 (zv5 (S5 (z4 0 (pv 0)) (P9 (is:=[1,2]) (K6 rfl (n6 (x9 (i:=1) sc_Z11.nd rfl (Or.inl rfl)) (n6 (x9 (i:=2) sc_Z11.nd rfl (Or.inl rfl)) R5)))))) (y6 (a7 (xt3 (zt0 (G.mono (by decide)) hr.in1 zm2) rfl hr.units rfl (yv1 Z) rfl j (R7 (k6 (z4 1 (pv 1)) (z4 2 (pv 2)))) (i9 (v5 z3))))))
noncomputable abbrev yg3:Stmt:=top 13
noncomputable abbrev xb0:List Str:=["steps","above","below","most","place"]
theorem sc_Z10:FnScope xb0 ["steps"] (z9 yg3):=qsc
theorem M9:List.Nodup (["later","most"]:List Str):=by decide +kernel
theorem xg5 (D:QDf K mg "most_stepped" yg3 ["steps"])(Z:Zs mg):xn5 P w K mg base:=
 D.mk fun f fd z=>z.okD (k:=0) (m:=ya4) sc_Z10 fun cdv A outer s H E hr=>(z6 (zv5 (S5 (z4 0 (pv 0)) (P9 (is:=[1,2]) (K6 rfl (n6 (x9 (i:=1) sc_Z10.nd rfl (Or.inl rfl)) (n6 (x9 (i:=2) sc_Z10.nd rfl (Or.inl rfl)) R5)))))) (z6 (j6 (i:=3) sc_Z10.nd rfl (Or.inr rfl) (P3 (v5 (z0 z8 z3)) (w9 rfl (h6 Z) (y7 1 (pv 1))))) (z6 (D8 PassesOwn.never rfl (zr9 rfl (zy1 Z) rfl (m8 Z) (z0 (w9 rfl (h6 Z) (y7 1 (pv 1))) z3)) (v4 (i:=4) (x9 sc_Z10.nd rfl (Or.inl rfl))) (y6 (Y2 (i:=3) (S5 (k6 z8 (yr1 rfl hr.units rfl (zm8 Z) (C1 (yf4 (N0 (by decide)) (e7 (N:=["later","most"]) (src:=[none,some 3]) (z9 yg3) xb0 rfl rfl (by decide +kernel)) rfl (P8 (k6 (m9 (y7 1 (pv 1)) (z4 4 (pv 4))) (m9 (y7 2 (pv 2)) (z4 4 (pv 4))))) (fun C fp j H0=>(v4 (i:=0) (x9 M9 rfl (Or.inl rfl)))) (fun C fp j H0=>W3) (fun C fp j H0=>(m9 (y7 1 (pv 1)) (z4 0 (pv 0)))))) z8)) (K7 (pv 3) (z4 4 (pv 4)) X9))))) (g8 3 (y6 (a7 (yr1 rfl hr.units rfl (zm8 Z) (y7 3 (pv 3)) z8)))))))
noncomputable abbrev s_Z6:Stmt:=top 14
noncomputable abbrev N_Z6:List Str:=["row","step","steps","most","tails","kept"]
theorem sc_Z6:FnScope N_Z6 ["row","step"] (z9 s_Z6):=qsc
theorem wz8 (D:QDf K mg "kept_by_turns" s_Z6 ["row","step"])(N:xc4 P w K mg base)(j:xn4 P w K mg base)(O:xn5 P w K mg base)(G:xc2 P w K mg base)(z:T_Z5 P w K mg base)(I:xn2 P w K mg base)(Z:Zs mg):T_Z6 P w K mg base:=
 D.mk fun f fd U=>U.okD (k:=3) (m:=b_Z6) sc_Z6 fun cdv A outer s H E hr=>(z6 (zd8 (u5 (fun t ha=>qcl I hr ha) rfl (z0 (z4 1 (pv 1)) z3) qal1)) (z6 (j9 (i:=2) sc_Z6.nd rfl (Or.inl rfl) (zj9 0 (u5 (fun t ha=>qcl N hr ha) rfl (z0 (z4 0 (pv 0)) (z0 (z4 1 (pv 1)) z3)) qal2))) (z6 (j9 (i:=3) sc_Z6.nd rfl (Or.inl rfl) (u5 (fun t ha=>qcl O hr ha) rfl (z0 (z4 2 (pv 2)) z3) qal1)) (z6 (j9 (i:=4) sc_Z6.nd rfl (Or.inl rfl) (u5 (fun t ha=>qcl z hr ha) rfl (z0 (z4 2 (pv 2)) (z0 (zj9 0 (u5 (fun t ha=>qcl G hr ha) rfl (z0 (z4 0 (pv 0)) z3) qal1)) z3)) qal2)) (z6 (j6 (i:=5) sc_Z6.nd rfl (Or.inl rfl) (v5 (z0 (w9 rfl (h6 Z) (R7 (u5 (fun t ha=>qcl j hr ha) rfl (z0 (z4 4 (pv 4)) z3) qal1))) z3))) (z6 (zr3 1000 PassesOwn.never (j7 ye4 zc8 (m9 (y7 5 (pv 5)) (N4 z8)) (z4 3 (pv 3)) (u7 _)) (z6 (j9 (i:=4) sc_Z6.nd rfl (Or.inl rfl) (u5 (fun t ha=>qcl z hr ha) rfl (z0 (z4 2 (pv 2)) (z0 (z4 4 (pv 4)) z3)) qal2)) (y6 (f6 (i:=5) (pv 5) (w9 rfl (h6 Z) (R7 (u5 (fun t ha=>qcl j hr ha) rfl (z0 (z4 4 (pv 4)) z3) qal1))) (fun t ha=>qap (pv 5) ha) (z0 (w9 rfl (h6 Z) (R7 (u5 (fun t ha=>qcl j hr ha) rfl (z0 (z4 4 (pv 4)) z3) qal1))) z3))))) (y6 (yg7 5 (pv 5)))))))))
noncomputable abbrev s_Z0:Stmt:=top 14
noncomputable abbrev N_Z0:List Str:=["row","step","steps","most","tails","kept"]
theorem sc_Z0:FnScope N_Z0 ["row","step"] (z9 s_Z0):=qsc
theorem wy4 (D:QDf K mg "kept_by_turns" s_Z0 ["row","step"])(O:T_Z4 P w K mg base)(j:xn4 P w K mg base)(N:xn5 P w K mg base)(G:xc3 P w K mg base)(z:T_Z5 P w K mg base)(I:xn2 P w K mg base)(Z:Zs mg):T_Z0 P w K mg base:=
 D.mk fun f fd U=>U.okGl (k:=3) (m:=b_Z0) sc_Z0 (by decide) fun cdv A outer s H E hr=>(z6 (zd8 (u5 (fun t ha=>qcl I hr ha) rfl (z0 (z4 1 (pv 1)) z3) qal1)) (z6 (j5 (i:=2) sc_Z0.nd rfl (Or.inl rfl) (y9 (i:=0) (fun t ha=>qcl O hr ha) rfl (pv 0) (x8 (z0 (z4 1 (pv 1)) z3)) (w6 qal1))) (z6 (j9 (i:=3) sc_Z0.nd rfl (Or.inl rfl) (u5 (fun t ha=>qcl N hr ha) rfl (z0 (z4 2 (pv 2)) z3) qal1)) (z6 (j5 (i:=4) sc_Z0.nd rfl (Or.inl rfl) (yf8 (fun t ha=>qcl z hr ha) rfl (g4 (w4 (z4 2 (pv 2))) (g4 (y9 (i:=0) (fun t ha=>qcl G hr ha) rfl (pv 0) (x8 z3) (w6 W7)) (x8 z3))) (P1 (P1 (w6 W7))))) (z6 (j6 (i:=5) sc_Z0.nd rfl (Or.inl rfl) (v5 (z0 (w9 rfl (h6 Z) (R7 (u5 (fun t ha=>qcl j hr ha) rfl (z0 (z4 4 (pv 4)) z3) qal1))) z3))) (z6 (zr3 1000 PassesOwn.never (j7 ye4 zc8 (m9 (y7 5 (pv 5)) (N4 z8)) (z4 3 (pv 3)) (u7 _)) (z6 (j9 (i:=4) sc_Z0.nd rfl (Or.inl rfl) (u5 (fun t ha=>qcl z hr ha) rfl (z0 (z4 2 (pv 2)) (z0 (z4 4 (pv 4)) z3)) qal2)) (y6 (f6 (i:=5) (pv 5) (w9 rfl (h6 Z) (R7 (u5 (fun t ha=>qcl j hr ha) rfl (z0 (z4 4 (pv 4)) z3) qal1))) (fun t ha=>qap (pv 5) ha) (z0 (w9 rfl (h6 Z) (R7 (u5 (fun t ha=>qcl j hr ha) rfl (z0 (z4 4 (pv 4)) z3) qal1))) z3))))) (y6 (zr5 0 5 (pv 5)))))))))
noncomputable abbrev xw8:Stmt:=top 16
noncomputable abbrev ww3:List Str:=["pot","many","cell","stir"]
theorem sc_Z19:FnScope ww3 ["pot","many"] (z9 xw8):=qsc
theorem xh6 (D:QDf K mg "_law_next" xw8 ["pot","many"]):zm7 P w K mg base:=
 D.mk fun f fd j=>j.okGl (k:=0) (m:=ya3) sc_Z19 (by decide) fun cdv A outer s H E hr=>(z6 (Y2 (i:=0) (S5 (k6 (m9 (y7 0 (pv 0)) z8) z8) (K7 (pv 0) z8 X9))) (z6 (j9 (i:=2) sc_Z19.nd rfl (Or.inl rfl) (m9 (y7 0 (pv 0)) z8)) (z6 (R4 (j7 zz8 P4 (z4 2 (pv 2)) (ys7 z8 z8) (u7 _)) (z6 (Y2 (i:=0) (S5 (zj8 (z4 2 (pv 2)) (z4 1 (pv 1))) (K7 (pv 0) z8 X9))) (y6 (g0 0 (w4 (K8 (z4 2 (pv 2)) (z4 1 (pv 1))))))) i7) (z6 (j9 (i:=3) sc_Z19.nd rfl (Or.inl rfl) (K8 (k6 (k6 (zq1 (z4 2 (pv 2)) z8) (zq1 (m9 (y7 0 (pv 0)) z8) z8)) z8) z8)) (z6 (j9 (i:=3) sc_Z19.nd rfl (Or.inl rfl) (K8 (zq1 (z4 3 (pv 3)) (z4 3 (pv 3))) z8)) (y6 (g0 0 (w4 (K8 (zj8 (K8 (k6 (zq1 (z4 3 (pv 3)) z8) (zq1 (m9 (y7 0 (pv 0)) z8) z8)) z8) z8) (z4 1 (pv 1)))))))))))
noncomputable abbrev Q4:Stmt:=top 17
noncomputable abbrev zw0:List Str:=["script"]
theorem zk6:FnScope zw0 ["script"] (z9 Q4):=qsc
theorem zu0:List.Nodup (["cell"]:List Str):=by decide +kernel
theorem zi2 (D:QDf K mg "_law_pots" Q4 ["script"])(Z:Zs mg):zx9 P w K mg base:=
 D.mk fun f fd z=>z.okP (k:=0) zk6 rfl (fun cdv A outer s H E hr=>(j7 M8 a8 (w9 rfl (h6 Z) (y7 0 (pv 0))) z8 (u7 _))) (fun cdv A outer s H E hr=>(xv8 (v5 (z0 z8 (z0 z8 z3))))) (fun cdv A outer s H E hr=>(xv9 (e7 (N:=["cell"]) (src:=[none]) (z9 Q4) zw0 rfl rfl (by decide +kernel)) rfl (P8 (i9 (yf3 (y7 0 (pv 0)) F8 (F7 z8)))) (fun C fp j H0=>(v4 (i:=0) (x9 zu0 rfl (Or.inl rfl)))) (fun C fp j H0=>(v5 (z0 (z4 0 (pv 0)) (z0 z8 z3))))))
noncomputable abbrev s_Z1:Stmt:=top 18
noncomputable abbrev N_Z1:List Str:=["pot","kind"]
theorem xa6:FnScope N_Z1 ["pot","kind"] (z9 s_Z1):=qsc
theorem wy3 (D:QDf K mg "_law_some_number" s_Z1 ["pot","kind"])(j:zm7 P w K mg base):T_Z1 P w K mg base:=
 D.mk fun f fd z=>z.okGl (k:=1) (m:=b_Z1) xa6 (by decide) fun cdv A outer s H E hr=>(z6 (R4 (j7 M8 a8 (z4 1 (pv 1)) z8 (u7 _)) (y6 (g0 0 (y9 (i:=0) (fun t ha=>qcl j hr ha) rfl (pv 0) (x8 (z0 z8 z3)) (w6 qal1)))) i7) (z6 (R4 (j7 M8 a8 (z4 1 (pv 1)) z8 (u7 _)) (y6 (g0 0 (V8 yq0 zi0 (y9 (i:=0) (fun t ha=>qcl j hr ha) rfl (pv 0) (x8 (z0 z8 z3)) (w6 qal1)) (w4 z8)))) i7) (z6 (R4 (j7 M8 a8 (z4 1 (pv 1)) z8 (u7 _)) (y6 (g0 0 (V8 yq0 zi0 (y9 (i:=0) (fun t ha=>qcl j hr ha) rfl (pv 0) (x8 (z0 z8 z3)) (w6 qal1)) (w4 z8)))) i7) (y6 (g0 0 (V8 yq2 zi1 (zc3 (w4 (i9 (v5 (z0 (N4 z8) (z0 z8 z3))))) (y9 (i:=0) (fun t ha=>qcl j hr ha) rfl (pv 0) (x8 (z0 z8 z3)) (w6 qal1))) (V8 (OpR.or P5 Y3) W8 (w4 (ys7 z8 z8)) (y9 (i:=0) (fun t ha=>qcl j hr ha) rfl (pv 0) (x8 (z0 z8 z3)) (w6 qal1)))))))))
noncomputable abbrev yu7:Stmt:=top 19
noncomputable abbrev xn6:List Str:=["pot","most","kind","many","found","shape"]
theorem sc_Z13:FnScope xn6 ["pot","most"] (z9 yu7):=qsc
theorem L3:List.Nodup (["k","pot","kind"]:List Str):=by decide +kernel
theorem V9:List.Nodup (["k","number"]:List Str):=by decide +kernel
theorem xg2 (D:QDf K mg "_law_some_row" yu7 ["pot","most"])(z:zm7 P w K mg base)(I:T_Z1 P w K mg base)(Z:Zs mg):xc6 P w K mg base:=
 D.mk fun f fd O=>O.okGl (k:=2) (m:=xo3) sc_Z13 (by decide) fun cdv A outer s H E hr=>(z6 (j5 (i:=2) sc_Z13.nd rfl (Or.inr rfl) (y9 (i:=0) (fun t ha=>qcl z hr ha) rfl (pv 0) (x8 (z0 z8 z3)) (w6 qal1))) (z6 (j5 (i:=3) sc_Z13.nd rfl (Or.inl rfl) (y9 (i:=0) (fun t ha=>qcl z hr ha) rfl (pv 0) (g4 (zc3 (w4 (i9 (v5 (z0 (ys8 rfl rfl (yv1 Z) (z0 z8 (z0 (k6 (z4 1 (pv 1)) z8) z3))) (z0 (ys8 rfl rfl (yv1 Z) (z0 z8 (z0 (k6 (z4 1 (pv 1)) z8) z3))) (z0 (k6 (z4 1 (pv 1)) z8) z3)))))) (y9 (i:=0) (fun t ha=>qcl z hr ha) rfl (pv 0) (x8 (z0 z8 z3)) (w6 qal1))) (x8 z3)) (P1 (w6 W7)))) (z6 (yy9 (i:=0) (j:=1) rfl (by decide) (D9 (i:=4) sc_Z13.nd rfl (Or.inl rfl) (e7 (N:=["k","pot","kind"]) (src:=[none,some 0,some 2]) (z9 yu7) xn6 rfl rfl (by decide +kernel)) rfl (V7 rfl (m8 Z) (z0 (z4 3 (pv 3)) z3)) (fun C fp G H0=>(x9 (i:=0) L3 rfl (Or.inl rfl))) (fun C fp G H0=>zv3) (fun C fp G H0=>(y9 (i:=1) (fun t ha=>qcl I hr ha) rfl (pv 1) (x8 (z0 (z4 2 (pv 2)) z3)) (w6 qal1))))) (z6 (j5 (i:=5) sc_Z13.nd rfl (Or.inl rfl) (y9 (i:=0) (fun t ha=>qcl z hr ha) rfl (pv 0) (x8 (z0 z8 z3)) (w6 qal1))) (z6 (R4 (j7 M8 a8 (z4 5 (pv 5)) z8 (u7 _)) (y6 (j9 (i:=4) sc_Z13.nd rfl (Or.inl rfl) (i9 (yx1 rfl (yh3 Z) (y7 4 (pv 4)) PyProof.Rows.boot_sorted)))) i7) (z6 (R4 (j7 M8 a8 (z4 5 (pv 5)) z8 (u7 _)) (y6 (zr4 (D9 (i:=4) sc_Z13.nd rfl (Or.inl rfl) (e7 (N:=["k","number"]) (src:=[none,none]) (z9 yu7) xn6 rfl rfl (by decide +kernel)) rfl (zc1 rfl (T7 Z) (z0 (z4 4 (pv 4)) z3)) (fun C fp G H0=>(P9 (is:=[0,1]) (K6 rfl (n6 (x9 (i:=0) V9 rfl (Or.inl rfl)) (n6 (x9 (i:=1) V9 rfl (Or.inl rfl)) R5))))) (fun C fp G H0=>W3) (fun C fp G H0=>(k6 (z4 1 (pv 1)) (m9 (C1 (v5 (z0 z8 (z0 (N4 z8) z3)))) (K8 (z4 0 (pv 0)) z8))))))) i7) (z6 (R4 (j7 M8 a8 (z4 5 (pv 5)) z8 (u7 _)) (y6 (j9 (i:=4) sc_Z13.nd rfl (Or.inl rfl) (i9 (P3 (yf3 (y7 4 (pv 4)) F8 (F7 z8)) (z4 3 (pv 3)))))) i7) (y6 (g0 0 (w4 (z4 4 (pv 4))))))))))))
noncomputable abbrev s_Z7:Stmt:=top 20
noncomputable abbrev N_Z7:List Str:=["pot"]
theorem xa4:FnScope N_Z7 ["pot"] (z9 s_Z7):=qsc
theorem wz7 (D:QDf K mg "_law_some_step" s_Z7 ["pot"])(j:zm7 P w K mg base):T_Z7 P w K mg base:=
 D.mk fun f fd z=>z.okGl (k:=1) (m:=b_Z7) xa4 (by decide) fun cdv A outer s H E hr=>(y6 (g0 0 (zc3 (xt0 (g4 (w4 z8) (g4 (w4 z8) (g4 (V8 (OpR.or P5 Y3) W8 (w4 z8) (y9 (i:=0) (fun t ha=>qcl j hr ha) rfl (pv 0) (x8 (z0 z8 z3)) (w6 qal1))) (g4 (V8 (OpR.or P5 Y3) W8 (w4 z8) (y9 (i:=0) (fun t ha=>qcl j hr ha) rfl (pv 0) (x8 (z0 z8 z3)) (w6 qal1))) (x8 (z0 (ys7 z8 z8) z3))))))) (y9 (i:=0) (fun t ha=>qcl j hr ha) rfl (pv 0) (x8 (z0 z8 z3)) (w6 qal1)))))
noncomputable abbrev W0:Stmt:=top 21
noncomputable abbrev J8:List Str:=["row","step","turns","tables","turn","table","one","other","side","most"]
theorem sc_law_tables:FnScope J8 ["row","step","turns"] (z9 W0):=qsc
theorem C3:List.Nodup (["number"]:List Str):=by decide +kernel
theorem zv8 (D:QDf K mg "_law_tables" W0 ["row","step","turns"])(Z:Zs mg):J7 P w K mg base:=
 D.mk fun f fd z=>(z.okW (k:=0) (m:=W6) sc_law_tables fun cdv A outer s H E hr=>(V6 (psw (j6 (i:=3) sc_law_tables.nd rfl (Or.inl rfl) (v5 z3))) (V6 (zj2 PassesOwn.never rfl (V7 rfl (m8 Z) (z0 (k6 (z4 2 (pv 2)) z8) z3)) (v4 (i:=4) (x9 sc_law_tables.nd rfl (Or.inl rfl))) (yt4 (D9 (i:=5) sc_law_tables.nd rfl (Or.inl rfl) (e7 (N:=["number"]) (src:=[none]) (z9 W0) J8 rfl rfl (by decide +kernel)) rfl (P8 (z4 0 (pv 0))) (fun C fp j H0=>(v4 (i:=0) (x9 C3 rfl (Or.inl rfl)))) (fun C fp j H0=>W3) (fun C fp j H0=>(v5 (z0 z8 (z0 z8 z3))))) (V6 (zj2 PassesOwn.never rfl (yx0 rfl (m8 Z) (z0 (S6 (w9 rfl (h6 Z) (y7 0 (pv 0))) z8) (z0 (N4 z8) (z0 (N4 z8) z3)))) (v4 (i:=6) (x9 sc_law_tables.nd rfl (Or.inl rfl))) (Q5 (zj2 PassesOwn.never rfl (i8 rfl (m8 Z) (z0 (k6 (z4 6 (pv 6)) z8) (z0 (w9 rfl (h6 Z) (y7 0 (pv 0))) z3))) (v4 (i:=7) (x9 sc_law_tables.nd rfl (Or.inl rfl))) (V6 (psw (j9 (i:=8) sc_law_tables.nd rfl (Or.inl rfl) (xt4 rfl (xx5 Z) (z0 (xz6 ye4 zc8 (m9 (y7 0 (pv 0)) (z4 7 (pv 7))) (m9 (y7 0 (pv 0)) (z4 6 (pv 6))) (u7 _)) z3) PyProof.Rows.boot_int))) (Q5 (xz2 (pcw (j7 zz8 P4 (xi6 rfl (xb4 Z) (z0 (S6 (m9 (y7 0 (pv 0)) (z4 7 (pv 7))) (m9 (y7 0 (pv 0)) (z4 6 (pv 6)))) z3)) (z4 1 (pv 1)) (u7 _))) (V6 (xv7 (i:=9) sc_law_tables.nd rfl (Or.inl rfl) (zc2 (m9 (R7 (m9 (y7 5 (pv 5)) (z4 7 (pv 7)))) (z4 8 (pv 8))))) (V6 (xz2 (pcw (j7 wz4 xi9 (z4 4 (pv 4)) z8 (u7 _))) (Q5 (psw (j9 (i:=9) sc_law_tables.nd rfl (Or.inl rfl) (yr2 rfl rfl (zm8 Z) (z0 (z4 9 (pv 9)) (z0 (m9 (R7 (m9 (R7 (m9 (y7 3 (pv 3)) (N4 z8))) (z4 7 (pv 7)))) (S6 z8 (z4 8 (pv 8)))) z3)))))) zd7) (Q5 (yg5 (S5 (zc2 (yr2 rfl rfl (zm8 Z) (z0 (m9 (R7 (m9 (y7 5 (pv 5)) (z4 6 (pv 6)))) (z4 8 (pv 8))) (z0 (k6 z8 (z4 9 (pv 9))) z3)))) (K7 (xu6 zh7 (pv 5) (z4 6 (pv 6)) (fun _ _=>rfl)) (z4 8 (pv 8)) X9)))))) zd7)))))) (zr2 5 (Q5 (psw (f6 (i:=3) (pv 3) (z4 5 (pv 5)) (fun t ha=>qap (pv 3) ha) (z0 (z4 5 (pv 5)) z3)))))))) (Q5 (yg6 3 (pv 3)))))).plainW
noncomputable abbrev yg1:Stmt:=top 22
noncomputable abbrev xc8:List Str:=["table"]
theorem xk4:FnScope xc8 ["table"] (z9 yg1):=qsc
theorem zu1:List.Nodup (["kept"]:List Str):=by decide +kernel
theorem xh5 (D:QDf K mg "_law_most" yg1 ["table"])(Z:Zs mg):xc1 P w K mg base:=
 D.mk fun f fd z=>z.okD (k:=0) (m:=xp7) xk4 fun cdv A outer s H E hr=>(y6 (a7 (yr0 rfl rfl (zm8 Z) (C1 (ys4 (C1 (v5 (z0 z8 z3))) (C1 (R6 (e7 (N:=["kept"]) (src:=[none]) (z9 yg1) xc8 rfl rfl (by decide +kernel)) rfl (P8 (z4 0 (pv 0))) (fun C fp j H0=>(v4 (i:=0) (x9 zu1 rfl (Or.inl rfl)))) (fun C fp j H0=>W3) (fun C fp j H0=>(yr0 rfl rfl (zm8 Z) (y7 0 (pv 0)))))))))))
noncomputable abbrev s_Z8:Stmt:=top 23
noncomputable abbrev N_Z8:List Str:=["told"]
theorem xa3:FnScope N_Z8 ["told"] (z9 s_Z8):=qsc
theorem N5:List.Nodup (["one"]:List Str):=by decide +kernel
theorem wz6 (D:QDf K mg "_law_are_whole" s_Z8 ["told"])(Z:Zs mg):T_Z8 P w K mg base:=
 D.mk fun f fd z=>z.okD (k:=0) (m:=b_Z8) xa3 fun cdv A outer s H E hr=>(y6 (a7 (xi5 (yr3 (C:="list") rfl (R0 Z) rfl (ze3 Z) PyProof.Rows.boot_list (z4 0 (pv 0))) (xi4 (xz5 (xz8 hr.units) (C1 (R6 (e7 (N:=["one"]) (src:=[none]) (z9 s_Z8) N_Z8 rfl rfl (by decide +kernel)) rfl (P8 (z4 0 (pv 0))) (fun C fp j H0=>(v4 (i:=0) (x9 N5 rfl (Or.inl rfl)))) (fun C fp j H0=>(Y0 (pc_w (yr6 (yr8 (yr3 (C:="bool") rfl (R0 Z) rfl (xn8 Z) PyProof.Rows.boot_bool (z4 0 (pv 0)))) (xz0 (xz7 (yr8 (yr3 (C:="int") rfl (R0 Z) rfl (xx5 Z) PyProof.Rows.boot_int (z4 0 (pv 0)))))))))) (fun C fp j H0=>z8))) (C1 (v5 z3)) (u7 _))))))
noncomputable abbrev yg2:Stmt:=top 24
noncomputable abbrev xc9:List Str:=["pot","step","many","bends","here","sign","found","place"]
theorem sc_Z14:FnScope xc9 ["pot","step"] (z9 yg2):=qsc
theorem L0:List.Nodup (["k","pot","many"]:List Str):=by decide +kernel
theorem xg1 (D:QDf K mg "_law_wide_row" yg2 ["pot","step"])(z:zm7 P w K mg base)(Z:Zs mg):xc5 P w K mg base:=
 D.mk fun f fd I=>I.okGl (k:=1) (m:=xo2) sc_Z14 (by decide) fun cdv A outer s H E hr=>(z6 (j5 (i:=2) sc_Z14.nd rfl (Or.inr rfl) (V8 (OpR.or P5 Y3) W8 (w4 z8) (y9 (i:=0) (fun t ha=>qcl z hr ha) rfl (pv 0) (x8 (z0 z8 z3)) (w6 qal1)))) (z6 (zj3 (i:=0) (j:=1) rfl (by decide) (D9 (i:=3) sc_Z14.nd rfl (Or.inl rfl) (e7 (N:=["k","pot","many"]) (src:=[none,some 0,some 2]) (z9 yg2) xc9 rfl rfl (by decide +kernel)) rfl (zy6 rfl (m8 Z) (g4 (y9 (i:=0) (fun t ha=>qcl z hr ha) rfl (pv 0) (x8 (z0 z8 z3)) (w6 qal1)) (x8 z3))) (fun C fp G H0=>(x9 (i:=0) L0 rfl (Or.inl rfl))) (fun C fp G H0=>zv3) (fun C fp G H0=>(y9 (i:=1) (fun t ha=>qcl z hr ha) rfl (pv 1) (x8 (z0 (z4 2 (pv 2)) z3)) (w6 qal1))))) (z6 (j9 (i:=4) sc_Z14.nd rfl (Or.inl rfl) z8) (z6 (j9 (i:=5) sc_Z14.nd rfl (Or.inl rfl) z8) (z6 (j6 (i:=6) sc_Z14.nd rfl (Or.inl rfl) (v5 z3)) (z6 (D8 PassesOwn.never rfl (V7 rfl (m8 Z) (z0 (z4 2 (pv 2)) z3)) (v4 (i:=7) (x9 sc_Z14.nd rfl (Or.inl rfl))) (z6 (R4 (j7 yq3 xi8 (z4 7 (pv 7)) (z4 3 (pv 3)) rfl) (y6 (j9 (i:=5) sc_Z14.nd rfl (Or.inl rfl) (S6 z8 (z4 5 (pv 5))))) i7) (z6 (j5 (i:=4) sc_Z14.nd rfl (Or.inl rfl) (V8 (OpR.or P5 Y3) W8 (w4 (z4 4 (pv 4))) (V8 yq2 zi1 (w4 (z4 5 (pv 5))) (y9 (i:=0) (fun t ha=>qcl z hr ha) rfl (pv 0) (x8 (z0 z8 z3)) (w6 qal1))))) (y6 (yg9 (i:=6) (fun t ha=>qap (pv 6) ha) (g4 (V8 (OpR.or P5 Y3) W8 (w4 (z4 4 (pv 4))) (y9 (i:=0) (fun t ha=>qcl z hr ha) rfl (pv 0) (x8 (z0 (k6 (zj8 (z4 1 (pv 1)) z8) z8) z3)) (w6 qal1))) (x8 z3))))))) (y6 (zr5 0 6 (pv 6)))))))))
noncomputable abbrev yg0:Stmt:=top 25
noncomputable abbrev xc7:List Str:=["row","step","turns","found"]
theorem sc_Z21:FnScope xc7 ["row","step","turns"] (z9 yg0):=qsc
theorem zq4:List.Nodup (["table"]:List Str):=by decide +kernel
theorem xh4 (D:QDf K mg "_law_due" yg0 ["row","step","turns"])(z:xc1 P w K mg base)(j:J7 P w K mg base):xn1 P w K mg base:=
 D.mk fun f fd I=>I.okD (k:=1) (m:=xp6) sc_Z21 fun cdv A outer s H E hr=>(z6 (zr4 (D9 (i:=3) sc_Z21.nd rfl (Or.inl rfl) (e7 (N:=["table"]) (src:=[none]) (z9 yg0) xc7 rfl rfl (by decide +kernel)) rfl (P8 (u5 (fun t ha=>qcl j hr ha) rfl (z0 (z4 0 (pv 0)) (z0 (z4 1 (pv 1)) (z0 (z4 2 (pv 2)) z3))) qal3)) (fun C fp G H0=>(v4 (i:=0) (x9 zq4 rfl (Or.inl rfl)))) (fun C fp G H0=>W3) (fun C fp G H0=>(u5 (fun t ha=>qcl z hr ha) rfl (z0 (z4 0 (pv 0)) z3) qal1)))) (y6 (yg8 (yf3 (y7 3 (pv 3)) F8 (F7 (k6 (yr4 (y7 3 (pv 3)) (m9 (y7 3 (pv 3)) (N4 z8)) (fun t ha=>xi3 PySem.F.plainAttrs_list PySem.F.slot_list_index PySem.F.type_list_index yq8 (y7 3 (pv 3)) ha)) z8))))))
noncomputable abbrev s_Z2:Stmt:=top 26
noncomputable abbrev N_Z2:List Str:=["pot","step","row"]
theorem sc_Z2:FnScope N_Z2 ["pot"] (z9 s_Z2):=qsc
theorem wy2 (D:QDf K mg "_law_wide_right" s_Z2 ["pot"])(j:xn1 P w K mg base)(z:zm7 P w K mg base)(G:xc5 P w K mg base)(I:T_Z6 P w K mg base)(Z:Zs mg):T_Z2 P w K mg base:=
 D.mk fun f fd N=>N.okGl (k:=4) (m:=b_Z2) sc_Z2 (by decide) fun cdv A outer s H E hr=>(z6 (j5 (i:=1) sc_Z2.nd rfl (Or.inl rfl) (V8 (OpR.or P5 Y3) W8 (w4 z8) (y9 (i:=0) (fun t ha=>qcl z hr ha) rfl (pv 0) (x8 (z0 z8 z3)) (w6 qal1)))) (z6 (j5 (i:=2) sc_Z2.nd rfl (Or.inl rfl) (y9 (i:=0) (fun t ha=>qcl G hr ha) rfl (pv 0) (x8 (z0 (z4 1 (pv 1)) z3)) (w6 qal1))) (y6 (g0 0 (w4 (xz5 (xz8 hr.units) (R7 (u5 (fun t ha=>qcl I hr ha) rfl (z0 (i9 (zj6 rfl (ze3 Z) (y7 2 (pv 2)) PyProof.Rows.boot_list)) (z0 (z4 1 (pv 1)) z3)) qal2)) (R7 (u5 (fun t ha=>qcl j hr ha) rfl (z0 (z4 2 (pv 2)) (z0 (z4 1 (pv 1)) (z0 z8 z3))) qal3)) (u7 _)))))))
noncomputable abbrev s_Z9:Stmt:=top 27
noncomputable abbrev N_Z9:List Str:=["pot","base","many"]
theorem sc_Z9:FnScope N_Z9 ["pot"] (z9 s_Z9):=qsc
theorem L5:List.Nodup (["k","pot"]:List Str):=by decide +kernel
theorem L4:List.Nodup (["k","base"]:List Str):=by decide +kernel
theorem wz5 (D:QDf K mg "_law_bent_row" s_Z9 ["pot"])(z:zm7 P w K mg base)(Z:Zs mg):T_Z9 P w K mg base:=
 D.mk fun f fd I=>I.okGl (k:=1) (m:=b_Z9) sc_Z9 (by decide) fun cdv A outer s H E hr=>(z6 (j5 (i:=1) sc_Z9.nd rfl (Or.inr rfl) (yx2 (i:=0) (j:=1) rfl (by decide) (e7 (N:=["k","pot"]) (src:=[none,some 0]) (z9 s_Z9) N_Z9 rfl rfl (by decide +kernel)) rfl (zy6 rfl (m8 Z) (g4 (V8 (OpR.or P5 Y3) W8 (w4 z8) (y9 (i:=0) (fun t ha=>qcl z hr ha) rfl (pv 0) (x8 (z0 z8 z3)) (w6 qal1))) (x8 z3))) (fun C fp G H0=>(x9 (i:=0) L5 rfl (Or.inl rfl))) (fun C fp G H0=>(y9 (i:=1) (fun t ha=>qcl z hr ha) rfl (pv 1) (x8 (z0 z8 z3)) (w6 qal1))))) (z6 (j5 (i:=2) sc_Z9.nd rfl (Or.inl rfl) (V8 (OpR.or P5 Y3) W8 (w4 z8) (y9 (i:=0) (fun t ha=>qcl z hr ha) rfl (pv 0) (x8 (z0 z8 z3)) (w6 qal1)))) (y6 (g0 0 (w4 (i9 (R6 (e7 (N:=["k","base"]) (src:=[none,some 1]) (z9 s_Z9) N_Z9 rfl rfl (by decide +kernel)) rfl (V7 rfl (m8 Z) (z0 (z4 2 (pv 2)) z3)) (fun C fp G H0=>(v4 (i:=0) (x9 L4 rfl (Or.inl rfl)))) (fun C fp G H0=>W3) (fun C fp G H0=>(k6 (m9 (y7 1 (pv 1)) (K8 (z4 0 (pv 0)) (w9 rfl (h6 Z) (y7 1 (pv 1))))) (m9 (C1 (v5 (z0 z8 (z0 z8 z3)))) (K8 (z4 0 (pv 0)) z8)))))))))))
noncomputable abbrev yy8:Stmt:=top 28
noncomputable abbrev ww2:List Str:=["script","k","pot","bent","row","step","due","handed","turn","told"]
theorem sc_Z22:FnScope ww2 ["script"] (z9 yy8):=qsc
theorem xh3 {f:Addr}{fd:FuncData}(Fn:Fun K "law" "law" yy8 f fd)(U:T_Z8 P w K mg base)(O:T_Z9 P w K mg base)(I:xn1 P w K mg base)(G:zm7 P w K mg base)(z:zx9 P w K mg base)(N:xc6 P w K mg base)(Y:T_Z7 P w K mg base)(a2:T_Z2 P w K mg base)(a1:T_Z6 P w K mg base)(a3:T_Z0 P w K mg base)(Z:Zs mg):FnOk P w K mg base CX0 6 f fd ["script"] (spR K 1 zh4):=
 Fn.okD (k:=5) (m:=xp5) sc_Z22 fun cdv A outer s H E hr=>(z6 (yt8 PassesOwn.never rfl rfl (T7 Z) (xu0 (fun t ha=>qcl z hr ha) rfl (z0 (i9 (yf3 (y7 0 (pv 0)) F8 (F7 z8))) z3) qal1) (K6 rfl (n6 (x9 (i:=1) sc_Z22.nd rfl (Or.inl rfl)) (n6 (x9 (i:=2) sc_Z22.nd rfl (Or.inl rfl)) R5))) (z6 (yt7 (xi7 (zj0 (zc5 (j7 M8 a8 (z4 1 (pv 1)) z8 (u7 _))) (zj0 (yr7 M8 a8 (y9 (i:=2) (fun t ha=>qcl G hr ha) rfl (pv 2) (x8 (z0 z8 z3)) (w6 qal1)) (w4 z8) (u7 _)) (zd5 (xt5 (ye0 (y9 (i:=2) (fun t ha=>qcl a2 hr ha) rfl (pv 2) (x8 z3) (w6 W7)))))))) (y6 (a7 yf9)) i7) (z6 (yt7 (xi7 (zj0 (zc5 (j7 M8 a8 (z4 1 (pv 1)) z8 (u7 _))) (zd5 (yr7 M8 a8 (y9 (i:=2) (fun t ha=>qcl G hr ha) rfl (pv 2) (x8 (z0 z8 z3)) (w6 qal1)) (w4 z8) (u7 _))))) (z6 (j5 (i:=3) sc_Z22.nd rfl (Or.inl rfl) (y9 (i:=2) (fun t ha=>qcl O hr ha) rfl (pv 2) (x8 z3) (w6 W7))) (y6 (R4 (yr9 (yq1 hr.units) (R7 (u5 (fun t ha=>qcl a1 hr ha) rfl (z0 (i9 (zj6 rfl (ze3 Z) (y7 3 (pv 3)) PyProof.Rows.boot_list)) (z0 z8 z3)) qal2)) (R7 (u5 (fun t ha=>qcl I hr ha) rfl (z0 (z4 3 (pv 3)) (z0 z8 (z0 (w9 rfl (h6 Z) (y7 3 (pv 3))) z3))) qal3)) (u7 _)) (y6 (a7 yf9)) i7))) i7) (z6 (j5 (i:=4) sc_Z22.nd rfl (Or.inl rfl) (y9 (i:=2) (fun t ha=>qcl N hr ha) rfl (pv 2) (g4 (zc3 (w4 (i9 (v5 (z0 z8 (z0 z8 z3))))) (yf7 rfl (xx5 Z) (g4 (xt2 (w4 (xz6 M8 a8 (z4 1 (pv 1)) z8 (u7 _))) (xu9 (xt1 M8 a8 (y9 (i:=2) (fun t ha=>qcl G hr ha) rfl (pv 2) (x8 (z0 z8 z3)) (w6 qal1)) (w4 z8) (u7 _)))) (x8 z3)) PyProof.Rows.boot_int)) (x8 z3)) (P1 (w6 W7)))) (z6 (j5 (i:=5) sc_Z22.nd rfl (Or.inl rfl) (y9 (i:=2) (fun t ha=>qcl Y hr ha) rfl (pv 2) (x8 z3) (w6 W7))) (z6 (j9 (i:=6) sc_Z22.nd rfl (Or.inl rfl) (u5 (fun t ha=>qcl I hr ha) rfl (z0 (z4 4 (pv 4)) (z0 (z4 5 (pv 5)) (z0 (w9 rfl (h6 Z) (y7 4 (pv 4))) z3))) qal3)) (z6 (j6 (i:=7) sc_Z22.nd rfl (Or.inl rfl) (zj6 rfl (ze3 Z) (y7 4 (pv 4)) PyProof.Rows.boot_list)) (y6 (D8 PassesOwn.never rfl (V7 rfl (m8 Z) (z0 z8 z3)) (v4 (i:=8) (x9 sc_Z22.nd rfl (Or.inl rfl))) (z6 (yt5 (i:=7) (j:=9) sc_Z22.nd rfl (by first|show Or.inl rfl|show Or.inr rfl) (fun t ha=>qcl a3 hr ha) rfl (pv 7) (z0 (z4 5 (pv 5)) z3) qal1) (z6 (R4 (pc_w (yr6 (xz7 (yr8 (zj9 9 (u5 (fun t ha=>qcl U hr ha) rfl (z0 (z4 9 (pv 9)) z3) qal1)))) (yr6 (yr9 (yq1 hr.units) (y7 9 (pv 9)) (y7 6 (pv 6)) (u7 _)) (xz0 (yr9 (yq1 hr.units) (y7 7 (pv 7)) (y7 4 (pv 4)) (u7 _)))))) (y6 (a7 yf9)) i7) (y6 (f6 (i:=9) (pv 9) z8 (fun t ha=>qap (pv 9) ha) (z0 z8 z3)))))))))))))) (y6 (a7 yf9)))
theorem all_mk {l:W.OpenLaw}{h:Heap}{fa:Addr}(X:K.In h)(G:h.Ns mainGlobals mg)(ah:mg "law"=some (.ref fa))(d_Z16:QDn K "refuse_step" xv0)(d_Z15:QDn K "later_steps" zk7)(d_Z12:QDn K "longer_first" xv1)(d_Z3:QDn K "longest_behind" s_Z3)(d_Z5:QDn K "one_turn_more" s_Z5)(d_Z18:QDn K "no_tails" xw9)(d_Z11:QDn K "longest_tail" xv2)(d_Z10:QDn K "most_stepped" yg3)(d_Z6:QDn K "kept_by_turns" s_Z6)(d_Z19:QDn K "_law_next" xw8)(d_law_pots:QDn K "_law_pots" Q4)(d_Z1:QDn K "_law_some_number" s_Z1)(d_Z13:QDn K "_law_some_row" yu7)(d_Z7:QDn K "_law_some_step" s_Z7)(d_law_tables:QDn K "_law_tables" W0)(d_Z20:QDn K "_law_most" yg1)(d_Z8:QDn K "_law_are_whole" s_Z8)(d_Z14:QDn K "_law_wide_row" yg2)(d_Z21:QDn K "_law_due" yg0)(d_Z2:QDn K "_law_wide_right" s_Z2)(d_Z9:QDn K "_law_bent_row" s_Z9)(d_Z22:QDn K "law" yy8)(y_abs:W.nsIn K mainGlobals "abs"=some none)(y_bool:W.nsIn K mainGlobals "bool"=some none)(y_enumerate:W.nsIn K mainGlobals "enumerate"=some none)(y_int:W.nsIn K mainGlobals "int"=some none)(y_isinstance:W.nsIn K mainGlobals "isinstance"=some none)(y_len:W.nsIn K mainGlobals "len"=some none)(y_list:W.nsIn K mainGlobals "list"=some none)(y_max:W.nsIn K mainGlobals "max"=some none)(y_min:W.nsIn K mainGlobals "min"=some none)(y_range:W.nsIn K mainGlobals "range"=some none)(y_reversed:W.nsIn K mainGlobals "reversed"=some none)(y_sorted:W.nsIn K mainGlobals "sorted"=some none):
  ∃ fd:FuncData,(∀(s:Shared)(v:Value),BindsTo s fd ⟨[v],[]⟩ [("script",v)])/\∀ base:Heap,K.In base->base.Ns mainGlobals mg->FnOk l.prog w K mg base CX0 6 fa fd ["script"] (spR K 1 zh4):=by
 let⟨x,e,oc,o1,kV,dc,pm,o2,cd,ct,sl,l',c,k⟩:=d_Z22
 have e:=ah.symm.trans (W.mg_of X G e)
 ext e
 have Z:Zs mg:=⟨W.mg_none_of X G y_abs,W.mg_none_of X G y_bool,W.mg_none_of X G y_enumerate,W.mg_none_of X G y_int,W.mg_none_of X G y_isinstance,W.mg_none_of X G y_len,W.mg_none_of X G y_list,W.mg_none_of X G y_max,W.mg_none_of X G y_min,W.mg_none_of X G y_range,W.mg_none_of X G y_reversed,W.mg_none_of X G y_sorted,True.intro⟩
 show⟨W.fnOf "law" "law" (S1 yy8) (d7 yy8) (z9 yy8) .none kV dc pm o2 cd ct,fun s v=>.of_eq rfl,fun base _ _=>?_⟩
 have N:=xh9 (P:=l.prog) (w:=w) (mg:=mg) (base:=base) (d_Z16.df X G (qbd1 fun _ _ _ _ _ _ _=>rfl))
 have a6:=xg0 (P:=l.prog) (w:=w) (mg:=mg) (base:=base) (d_Z15.df X G (qbd2 fun _ _ _ _ _ _ _ _=>rfl)) Z
 have ac:=wy0 (P:=l.prog) (w:=w) (mg:=mg) (base:=base) (d_Z15.df X G (qbd2 fun _ _ _ _ _ _ _ _=>rfl)) Z
 have O:=xg3 (P:=l.prog) (w:=w) (mg:=mg) (base:=base) (d_Z12.df X G (qbd1 fun _ _ _ _ _ _ _=>rfl)) Z
 have ad:=wy1 (P:=l.prog) (w:=w) (mg:=mg) (base:=base) (d_Z3.df X G (qbd2 fun _ _ _ _ _ _ _ _=>rfl)) Z
 have a2:=wz9 (P:=l.prog) (w:=w) (mg:=mg) (base:=base) (d_Z5.df X G (qbd2 fun _ _ _ _ _ _ _ _=>rfl)) O ad Z
 have a4:=xh7 (P:=l.prog) (w:=w) (mg:=mg) (base:=base) (d_Z18.df X G (qbd1 fun _ _ _ _ _ _ _=>rfl)) Z
 have a5:=xh8 (P:=l.prog) (w:=w) (mg:=mg) (base:=base) (d_Z18.df X G (qbd1 fun _ _ _ _ _ _ _=>rfl)) Z
 have U:=xg4 (P:=l.prog) (w:=w) (mg:=mg) (base:=base) (d_Z11.df X G (qbd1 fun _ _ _ _ _ _ _=>rfl)) O Z
 have Y:=xg5 (P:=l.prog) (w:=w) (mg:=mg) (base:=base) (d_Z10.df X G (qbd1 fun _ _ _ _ _ _ _=>rfl)) Z
 have a1:=wz8 (P:=l.prog) (w:=w) (mg:=mg) (base:=base) (d_Z6.df X G (qbd2 fun _ _ _ _ _ _ _ _=>rfl)) a6 U Y a4 a2 N Z
 have ag:=wy4 (P:=l.prog) (w:=w) (mg:=mg) (base:=base) (d_Z6.df X G (qbd2 fun _ _ _ _ _ _ _ _=>rfl)) ac U Y a5 a2 N Z
 have i:=xh6 (P:=l.prog) (w:=w) (mg:=mg) (base:=base) (d_Z19.df X G (qbd2 fun _ _ _ _ _ _ _ _=>rfl))
 have z:=zi2 (P:=l.prog) (w:=w) (mg:=mg) (base:=base) (d_law_pots.df X G (qbd1 fun _ _ _ _ _ _ _=>rfl)) Z
 have af:=wy3 (P:=l.prog) (w:=w) (mg:=mg) (base:=base) (d_Z1.df X G (qbd2 fun _ _ _ _ _ _ _ _=>rfl)) i
 have a8:=xg2 (P:=l.prog) (w:=w) (mg:=mg) (base:=base) (d_Z13.df X G (qbd2 fun _ _ _ _ _ _ _ _=>rfl)) i af Z
 have ab:=wz7 (P:=l.prog) (w:=w) (mg:=mg) (base:=base) (d_Z7.df X G (qbd1 fun _ _ _ _ _ _ _=>rfl)) i
 have j:=zv8 (P:=l.prog) (w:=w) (mg:=mg) (base:=base) (d_law_tables.df X G (qbd3 fun _ _ _ _ _ _ _ _ _=>rfl)) Z
 have a3:=xh5 (P:=l.prog) (w:=w) (mg:=mg) (base:=base) (d_Z20.df X G (qbd1 fun _ _ _ _ _ _ _=>rfl)) Z
 have aa:=wz6 (P:=l.prog) (w:=w) (mg:=mg) (base:=base) (d_Z8.df X G (qbd1 fun _ _ _ _ _ _ _=>rfl)) Z
 have a7:=xg1 (P:=l.prog) (w:=w) (mg:=mg) (base:=base) (d_Z14.df X G (qbd2 fun _ _ _ _ _ _ _ _=>rfl)) i Z
 have I:=xh4 (P:=l.prog) (w:=w) (mg:=mg) (base:=base) (d_Z21.df X G (qbd3 fun _ _ _ _ _ _ _ _ _=>rfl)) a3 j
 have ae:=wy2 (P:=l.prog) (w:=w) (mg:=mg) (base:=base) (d_Z2.df X G (qbd1 fun _ _ _ _ _ _ _=>rfl)) I i a7 a1 Z
 have a9:=wz5 (P:=l.prog) (w:=w) (mg:=mg) (base:=base) (d_Z9.df X G (qbd1 fun _ _ _ _ _ _ _=>rfl)) i Z
 show xh3 (ym7 l' c k) aa a9 I i z a8 ab ae a1 ag Z
theorem walk {l:W.OpenLaw}{q:Program}{i:List Str}{Z:(Str->Option Value)->Heap->Prop}{N:World->Heap->Prop}{d:DefRec}{K:Params->W.Frag}(hn:l.most=some 63)(G:d.params.defaults=[])
  (j:∀ ns:List Int,ns.length<=63->zh4 [.lst (ns.map .int)]=some (.sh (.bl true)))
  (U:∀(w:World)(h:Heap),N w h->(K w.params).In h)
  (F:∀(w:World)(mg:Str->Option Value)(I:Addr)(h:Heap),(K w.params).In h->h.Ns mainGlobals mg->mg d.name=some (.ref I)->
   ∃ fd:FuncData,(∀(s:Shared)(u:Value),BindsTo s fd ⟨[u],[]⟩ [("script",u)])/\∀ base:Heap,(K w.params).In base->base.Ns mainGlobals mg->FnOk l.prog w (K w.params) mg base CX0 6 I fd ["script"] (spR (K w.params) 1 zh4)):
  W.WalkO q i Z N l.row.toRowW d [] (fun f vs=>PySem.call f vs):=
 L2.walk_of (n:=63) (k:=6) (x:="script") (CX:=fun _=>CX0) (sp:=fun w=>spR (K w.params) 1 zh4) hn (by decide) G ⟨rfl,by decide,by decide⟩ U F (fun w H a ns O _ Y=>xk3 j H a ns O Y _) fun _ _ _ _ _ z=>z
end
end Lw
open PySem PySem.W PyProof.Rows L2
set_option maxRecDepth 100000 in
set_option maxHeartbeats 0 in
theorem PySem.Challenge.cw_wavyrow_k27_kept_by_turns_holds : PySem.Challenge.rw_wavyrow_k27_kept_by_turns.Holds := by
 w_on;o_law;k_head;(case hw=>w_witness2)
 k_fill
 show Lw.walk (l:=PySem.Challenge.rw_wavyrow_k27_kept_by_turns) rfl rfl Lw.law_true (fun w h Y=>PySem.W.kIn_of Y) ?F
 case F=>
  intro w mg fa h KX G hmg
  refine' Lw.all_mk KX G hmg  ?d_Z16 ?d_Z15 ?d_Z12 ?d_Z3 ?d_Z5 ?d_Z18 ?d_Z11 ?d_Z10 ?d_Z6 ?d_Z19 ?d_law_pots ?d_Z1 ?d_Z13 ?d_Z7 ?d_law_tables ?d_Z20 ?d_Z8 ?d_Z14 ?d_Z21 ?d_Z2 ?d_Z9 ?d_Z22    ?y_abs ?y_bool ?y_enumerate ?y_int ?y_isinstance ?y_len ?y_list ?y_max ?y_min ?y_range ?y_reversed ?y_sorted
  all_goals first| (refine' QDn.of ?e ?l ?c ?k;(case e=>k_is);(case l=>k_is);(case c=>k_is);(case k=>k_is))| (refine' QMn.of ?e ?i ?l ?c ?k;(case e=>k_is);(case i=>k_is);(case l=>k_is);(case c=>k_is);(case k=>k_is))|k_is|skip
