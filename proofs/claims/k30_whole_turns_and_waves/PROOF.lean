import PyProof.Rows.All
import Wide.All
import OpenK.AllK
import Wide.FinOn
import Lean
import PyProof.EqAt
import PyProof.EqKinds
import PyProof.TupleCall
import PyProof.NeKinds
import KE.IntBitsLaws
import PyProof.FitsBits
import PySem.Challenge.RW_wavyrow_k30_whole_turns_and_waves
set_option Elab.async false
set_option linter.all false
set_option maxRecDepth 100000
namespace L2
open PySem PySem.Spec PyProof.Rows
noncomputable abbrev Key:=Sum Int Str
noncomputable def keyIs:Key->Value->Bool
 | .inl k,v=>Value.isInt k v
 | .inr x,v=>Value.isStrOf x v
noncomputable def keyH (w:World):Key->Int
 | .inl k=>hashInt k
 | .inr x=>hashStr w x
theorem l8:∀{k:Key}{v:Value},keyIs k v=true->(∃ i t,k=Sum.inl i/\v=Value.int i t)\/(∃ x t,k=Sum.inr x/\v=Value.str x t)
 | .inl i,v,h=>by
  obtain⟨t,e⟩:=Value.isInt_shape (k:=i) (v:=v) h
  exact .inl ⟨i,t,rfl,e⟩
 | .inr x,v,h=>by
  obtain⟨t,e⟩:=Value.isStrOf_shape (x:=x) (v:=v) h
  exact .inr ⟨x,t,rfl,e⟩
theorem keyIs_str (x:Str)(t:Tok):keyIs (.inr x) (.str x t)=true:=by simp[keyIs,Value.isStrOf]
theorem key_ll (a b:Int):decide ((Sum.inl a:Key)=Sum.inl b)=(a==b):=by
 by_cases e:a=b
 .subst e;simp
 .have h:¬ (Sum.inl a:Key)=Sum.inl b:=fun q=>e (Sum.inl.inj q)
  rw[decide_eq_false h]
  exact(beq_eq_false_iff_ne.mpr e).symm
theorem key_rr (a b:Str):decide ((Sum.inr a:Key)=Sum.inr b)=decide (a=b):=by
 by_cases e:a=b
 .subst e;simp
 .have h:¬ (Sum.inr a:Key)=Sum.inr b:=fun q=>e (Sum.inr.inj q)
  rw[decide_eq_false h,decide_eq_false e]
theorem key_lr (a:Int)(b:Str):decide ((Sum.inl a:Key)=Sum.inr b)=false:=decide_eq_false (fun q=>nomatch q)
theorem key_rl (a:Str)(b:Int):decide ((Sum.inr a:Key)=Sum.inl b)=false:=decide_eq_false (fun q=>nomatch q)
noncomputable def J0 (prog:Program)(w:World):PySem.KeyKind prog w Key where
 is:=keyIs
 hash:=keyH w
 inj:=fun v a b ha hb=>by
  rcases l8 ha with⟨i,t,rfl,rfl⟩|⟨x,t,rfl,rfl⟩
  .rcases l8 hb with⟨j,u,rfl,e⟩|⟨y,u,rfl,e⟩
   .injection e with e1 _;rw[e1]
   .exact nomatch e
  .rcases l8 hb with⟨j,u,rfl,e⟩|⟨y,u,rfl,e⟩
   .exact nomatch e
   .injection e with e1 _;rw[e1]
 byValue:=fun k v h=>by
  rcases l8 h with⟨i,t,rfl,rfl⟩|⟨x,t,rfl,rfl⟩ <;> rfl
 pyHash:=fun hv h=>by
  rcases l8 hv with⟨i,t,rfl,rfl⟩|⟨x,t,rfl,rfl⟩
  .exact wpAny_pyHash_int h
  .exact wpAny_pyHash_str h
 eqBool:=fun hu hv h=>by
  rcases l8 hu with⟨i,t,rfl,rfl⟩|⟨x,t,rfl,rfl⟩
  .rcases l8 hv with⟨j,u,rfl,rfl⟩|⟨y,u,rfl,rfl⟩
   .rw[key_ll]at h;exact wpAny_eqBool_int h
   .rw[key_lr]at h;exact SeqAt.EqAt.int_str i t y u _ _ _ _ h
  .rcases l8 hv with⟨j,u,rfl,rfl⟩|⟨y,u,rfl,rfl⟩
   .rw[key_rl]at h;exact SeqAt.EqAt.str_int x t j u _ _ _ _ h
   .rw[key_rr]at h;exact wpAny_eqBool_str h
 «strs»:=fun k x t v h=>by
  rcases l8 h with⟨i,u,rfl,e⟩|⟨y,u,rfl,e⟩
  .exact nomatch e
  .injection e with e1 _
   subst e1
   cases v <;> rfl
end L2
namespace L2
open PySem PySem.Spec PyProof.Rows
inductive V where
 |non|bl (b:Bool)|int (i:Int)|str (x:Str)|byt (b:Array UInt8)|flt (b:UInt64)|ref (a:Addr)|ty (n:String)
 deriving DecidableEq
noncomputable def RelV:V->Value->Prop
 | .non,u=>u=Value.none
 | .bl b,u=>u=Value.bool b
 | .int i,u=>∃ t,u=Value.int i t
 | .str x,u=>∃ t,u=Value.str x t
 | .byt b,u=>∃ t,u=Value.bytes b t
 | .flt b,u=>∃ t,u=Value.float b t
 | .ref a,u=>u=Value.ref a
 | .ty n,u=>u=Value.type n
noncomputable abbrev Vals:List V->List Value->Prop:=Paired RelV
theorem Vals.length {xs:List V}{us:List Value}(r:Vals xs us):xs.length=us.length:=Paired.length r
theorem Vals.get:∀{xs:List V}{us:List Value}{i:Nat}{x:V},Vals xs us->xs[i]? =some x->∃ u,us[i]? =some u/\RelV x u
 |_,_,_,_,.nil,e=>by simp at e
 |_,_,0,_,.cons r _,e=>by simp at e;subst e;exact⟨_,rfl,r⟩
 |_,_,i+1,x,.cons _ t,e=>by
  obtain⟨u,h1,h2⟩:=Vals.get (i:=i) (x:=x) t (by simpa using e)
  exact⟨u,by simpa using h1,h2⟩
theorem Vals.set {x:V}{u:Value}(r:RelV x u):∀{xs:List V}{us:List Value}(i:Nat),Vals xs us->Vals (xs.set i x) (us.set i u)
 |_,_,_,.nil=>.nil
 |_,_,0,.cons _ t=>.cons r t
 |_,_,i+1,.cons q t=>.cons q (Vals.set r i t)
theorem Vals.append:∀{xs ys:List V}{us ws:List Value},Vals xs us->Vals ys ws->Vals (xs++ys) (us++ws)
 |_,_,_,_,.nil,s=>s
 |_,_,_,_,.cons r t,s=>.cons r (Vals.append t s)
theorem Vals.take:∀{xs:List V}{us:List Value}(n:Nat),Vals xs us->Vals (xs.take n) (us.take n)
 |_,_,0,_=>.nil
 |_,_,_+1,.nil=>.nil
 |_,_,n+1,.cons r t=>.cons r (Vals.take n t)
theorem Vals.drop:∀{xs:List V}{us:List Value}(n:Nat),Vals xs us->Vals (xs.drop n) (us.drop n)
 |_,_,0,r=>r
 |_,_,_+1,.nil=>.nil
 |_,_,n+1,.cons _ t=>Vals.drop n t
noncomputable def RelO:Option V->Option Value->Prop
 |some v,some u=>RelV v u
 |none,none=>True
 |_,_=>False
noncomputable def KV {κ:Type}:List (κ×V)->List (κ×Value)->Prop:=Paired fun(p:κ×V)(q:κ×Value)=>p.1=q.1/\RelV p.2 q.2
noncomputable def kV:Key->V
 | .inl i=>.int i
 | .inr x=>.str x
inductive HO where
 |lst (xs:List V)
 |tup (xs:List V)
 |dK (kvs:List (Key×V))|dT (kvs:List (List Key×V))
 |set (S:Int->Bool) (n:Nat)
 |ins (C dx:Addr) (fs:List (Str×V))
 |own (x:Addr)
 |xd (fs:List (Str×V))
 |met (f x:Addr)
 |rng (lo hi:Int)
 |frz (o:Obj) (u:HO)
 |tbl (ps:Array Value)
 |ext (φ:Heap->Prop)
noncomputable abbrev Hp:=Addr->Option HO
noncomputable def upd (H:Hp)(a:Addr)(o:HO):Hp:=fun b=>if b=a then some o else H b
theorem x8 {H:Hp}{a:Addr}{o:HO}:upd H a o a=some o:=by unfold upd;rw[if_pos rfl]
theorem w5 {H:Hp}{a b:Addr}{o:HO}(h:b≠a):upd H a o b=H b:=by unfold upd;rw[if_neg h]
theorem m7 {H:Hp}{a b:Addr}{o:HO}(h:H a=some o)(h':H b=none):a≠b:=by
 intro e;subst e;rw[h]at h';cases h'
section
variable (P:Program)(w:World)
noncomputable def ObjOk (H:Hp)(h:Heap)(a:Addr):HO->Prop
 | .lst xs=>xs.length<=sizeLine/\∃(its:List Value)(n:Nat),Vals xs its/\h.get? a=some { cls:=.type "list",data:=.seq its.toArray n }
 | .tup xs=>xs.length<=sizeLine/\∃ its:List Value,Vals xs its/\IsTup h a its.toArray
 | .dK kvs=>kvs.length<=sizeLine/\(a==sysModules)=false/\∃ vs,KV kvs vs/\h.DictOf (J0 P w) a vs
 | .dT kvs=>kvs.length<=sizeLine/\(a==sysModules)=false/\∃ xs:List (List Key×Addr×Value),
   Paired (fun(p:List Key×V)(q:List Key×Addr×Value)=>p.1=q.1/\H q.2.1=some (.tup (p.1.map kV))/\RelV p.2 q.2.2) kvs xs/\
   ∃ o es ep,h.get? a=some o/\o.ExactDict/\o.data= .dict es ep/\es.toList=xs.map (entryOfKey (tupleKind (J0 P w)))/\(xs.map (·.1)).Nodup
 | .set S n=>h.SetOf (intKind P w) a S n
 | .ins C dx fs=>H dx=some (.own a)/\fs.length<=1000/\dx≠a/\h.get? a=some (PySem.W.instObj C dx)/\
   ∃ mA,h.Ns1 dx mA/\(∀ f,RelO (fs.lookup f) (mA f))/\PySem.Within mA (fs.map (·.1))
 | .own _=>∃ o,h.get? a=some o
 | .xd fs=>∃ mA,h.Ns1 a mA/\∀ f,RelO (fs.lookup f) (mA f)
 | .rng lo hi=>∃ t u v,h.get? a=some { cls:=.type "range",data:=.fields #[.int lo t,.int hi u,.int 1 v] }
 | .frz o u=>h.get? a=some o/\ObjOk H h a u
 | .tbl ps=>h.get? a=some { cls:=.none,data:=.fields ps }
 | .met f x=>h.get? a=some (PySem.W.methodObj (.ref f) (.ref x))
 | .ext φ=>φ h/\(∃ o,h.get? a=some o)/\∀ h1 h2:Heap,φ h1->(∀ o,h1.get? a=some o->h2.get? a=some o)->φ h2
noncomputable def HOk (H:Hp)(h:Heap):Prop:=∀ a o,H a=some o->ObjOk P w H h a o
end
section
variable {P:Program}{w:World}{H H':Hp}{h h':Heap}{a:Addr}{o:HO}
theorem ObjOk.lt (x:ObjOk P w H h a o):a<h.objs.size:=by
 cases o with
 |lst xs=>obtain⟨_,_,_,_,e⟩:=x;exact Heap.lt_size e
 |tup xs=>obtain⟨_,_,_,p⟩:=x;exact p.lt
 |dK kvs=>obtain⟨_,_,_,_,o,_,_,e,_⟩:=x;exact Heap.lt_size e
 |dT kvs=>obtain⟨_,_,_,_,o,_,_,e,_⟩:=x;exact Heap.lt_size e
 |set S n=>obtain⟨o,_,_,_,e,_⟩:=x;exact Heap.lt_size e
 |ins C dx fs=>obtain⟨_,_,_,e,_⟩:=x;exact Heap.lt_size e
 |own y=>obtain⟨_,e⟩:=x;exact Heap.lt_size e
 |xd fs=>obtain⟨_,⟨_,_,_,e,_⟩,_⟩:=x;exact Heap.lt_size e
 |rng lo hi=>obtain⟨_,_,_,e⟩:=x;exact Heap.lt_size e
 |frz ob u=>obtain⟨e,_⟩:=x;exact Heap.lt_size e
 |tbl ps=>exact Heap.lt_size (show h.get? a=some _ from x)
 |met f y=>exact Heap.lt_size (show h.get? a=some _ from x)
 |ext φ=>obtain⟨_,⟨_,e⟩,_⟩:=x;exact Heap.lt_size e
theorem Paired.mapP {z q:Type}{F G:z->q->Prop}:∀{j:List z}{i:List q},Paired F j i->(∀ a b,F a b->G a b)->Paired G j i
 |_,_,.nil,_=>.nil
 |_,_,.cons r t,f=>.cons (f _ _ r) (Paired.mapP t f)
theorem ObjOk.stay (x:ObjOk P w H h a o)(k:∀ b u,(b=a\/H b=some (.own a))->h.get? b=some u->h'.get? b=some u)
  (G:∀ b,H b=some (.own a)->H' b=some (.own a)) (j:∀ b xs,H b=some (.tup xs)->H' b=some (.tup xs)):ObjOk P w H' h' a o:=by
 induction o with
 |lst xs=>obtain⟨z,its,n,r,e⟩:=x;exact⟨z,its,n,r,k _ _ (.inl rfl) e⟩
 |tup xs=>obtain⟨z,its,r,ob,e,c⟩:=x;exact⟨z,its,r,ob,k _ _ (.inl rfl) e,c⟩
 |dK kvs=>obtain⟨z,y,vs,r,ob,es,ep,e,c⟩:=x;exact⟨z,y,vs,r,ob,es,ep,k _ _ (.inl rfl) e,c⟩
 |dT kvs=>
  obtain⟨z,y,xs,r,ob,es,ep,e,c⟩:=x
  exact⟨z,y,xs,Paired.mapP r fun p q z=>⟨z.1,j _ _ z.2.1,z.2.2⟩,ob,es,ep,k _ _ (.inl rfl) e,c⟩
 |set S n=>obtain⟨ob,es,ep,t,e,c⟩:=x;exact⟨ob,es,ep,t,k _ _ (.inl rfl) e,c⟩
 |ins C dx fs=>
  obtain⟨d,z,ne,e,mA,⟨od,es,ep,e2,c⟩,r⟩:=x
  exact⟨G _ d,z,ne,k _ _ (.inl rfl) e,mA,⟨od,es,ep,k _ _ (.inr d) e2,c⟩,r⟩
 |own y=>obtain⟨ob,e⟩:=x;exact⟨ob,k _ _ (.inl rfl) e⟩
 |xd fs=>obtain⟨mA,⟨od,es,ep,e,c⟩,r⟩:=x;exact⟨mA,⟨od,es,ep,k _ _ (.inl rfl) e,c⟩,r⟩
 |rng lo hi=>obtain⟨t,u,v,e⟩:=x;exact⟨t,u,v,k _ _ (.inl rfl) e⟩
 |frz ob u i=>obtain⟨e,q⟩:=x;exact⟨k _ _ (.inl rfl) e,i q⟩
 |tbl ps=>
  have e:h.get? a=some { cls:=.none,data:=.fields ps }:=x
  show h'.get? a=some { cls:=.none,data:=.fields ps }
  exact k a _ (.inl rfl) e
 |met f y=>
  have e:h.get? a=some (PySem.W.methodObj (.ref f) (.ref y)):=x
  show h'.get? a=some (PySem.W.methodObj (.ref f) (.ref y))
  exact k a _ (.inl rfl) e
 |ext φ=>obtain⟨p,⟨o,e⟩,st⟩:=x;exact⟨st _ _ p fun o q=>k _ _ (.inl rfl) q,⟨o,k _ _ (.inl rfl) e⟩,st⟩
theorem HOk.lt (x:HOk P w H h)(e:H a=some o):a<h.objs.size:=(x a o e).lt
theorem HOk.fresh (x:HOk P w H h)(e:h.objs.size<=a):H a=none:=by
 cases q:H a with
 |none=>rfl
 |some u=>exact absurd (Nat.lt_of_lt_of_le (x.lt q) e) (Nat.lt_irrefl _)
theorem HOk.kept (x:HOk P w H h)(k:∀ b u,h.get? b=some u->h'.get? b=some u):HOk P w H h':=fun a o e=>
 (x a o e).stay (fun b u _ q=>k b u q) (fun _ q=>q) fun _ _ q=>q
theorem HOk.laid (x:HOk P w H h)(k:∀ b u,h.get? b=some u->h'.get? b=some u)(hp:h.objs.size<=a)(new:ObjOk P w (upd H a o) h' a o):HOk P w (upd H a o) h':=fun b u e=>by
 have hn:=x.fresh hp
 by_cases i:b=a
 .subst i;rw[x8]at e;cases e;exact new
 .rw[w5 i]at e
  exact(x b u e).stay (fun c v _ q=>k c v q) (fun c q=>by rw[w5 (m7 q hn)];exact q) fun c xs q=>by rw[w5 (m7 q hn)];exact q
end
noncomputable def Rd (H:Hp)(a:Addr)(u:HO):Prop:=H a=some u\/∃ o,H a=some (.frz o u)
theorem Rd.of {H:Hp}{a:Addr}{u:HO}(h:H a=some u):Rd H a u:=.inl h
theorem Rd.ok {P:Program}{w:World}{H:Hp}{h:Heap}{a:Addr}{u:HO}(r:Rd H a u)(x:HOk P w H h):ObjOk P w H h a u:=by
 rcases r with r|⟨o,r⟩
 .exact x a u r
 .obtain⟨_,q⟩:=x a _ r
  exact q
noncomputable def Mut:Option HO->Prop
 |some (.lst _)=>True
 |some (.dK _)=>True
 |some (.dT _)=>True
 |some (.set _ _)=>True
 |some (.ins _ _ _)=>True
 |some (.ext _)=>True
 |_=>False
section
variable {P:Program}{w:World}{H:Hp}{h h':Heap}{x e:Addr}{o':HO}
theorem HOk.write (ok:HOk P w H h)(I:Mut (H x))(N:e=x\/H e=some (.own x))(k:∀ b u,b≠e->h.get? b=some u->h'.get? b=some u)(M:∃ u,h'.get? e=some u)
  (new:ObjOk P w (upd H x o') h' x o'):HOk P w (upd H x o') h':=fun b u q=>by
 have j:∀ c y,H c=some (.own y)->c≠x:=fun c y r z=>by subst z;rw[r]at I;exact I
 have G:∀ c xs,H c=some (.tup xs)->c≠x:=fun c xs r z=>by subst z;rw[r]at I;exact I
 by_cases L:b=x
 .subst L;rw[x8]at q;cases q;exact new
 .rw[w5 L]at q
  by_cases i:b=e
  .have q':H b=some (.own x):=by
    rcases N with z|z
    .exact absurd (i.trans z) L
    .rw[i];exact z
   rw[q]at q';cases q'
   obtain⟨v,O⟩:=M
   exact⟨v,by rw[i];exact O⟩
  .refine(ok b u q).stay (fun c v J r=>k c v ?_ r) (fun c r=>by rw[w5 (j c b r)];exact r) fun c xs r=>by rw[w5 (G c xs r)];exact r
   rcases J with rfl|J
   .exact i
   .rintro rfl
    rcases N with z|z
    .exact j c b J z
    .rw[J]at z;cases z;exact L rfl
end
structure Un (fs ex:List Addr)(H H':Hp)(h h':Heap):Prop where
 keep:∀ b o,h.get? b=some o->H b=none->b∉fs->b∉ex->h'.get? b=some o
 slot:∀ b o,h.get? b=some o->H b=none->b∈fs->b∉ex->∃ sl,h'.get? b=some { o with slots:=sl }
 free:∀ b o,h.get? b=some o->H b=none->b∉ex->H' b=none
 there:∀ b o,h.get? b=some o->b∉ex->∃ o',h'.get? b=some o'
 tups:∀ b xs,H b=some (.tup xs)->H' b=some (.tup xs)
 frzs:∀ b o u,H b=some (.frz o u)->H' b=some (.frz o u)
 tbls:∀ b ps,H b=some (.tbl ps)->∃ more,H' b=some (.tbl (ps++more))
section
variable {fs fs' ex ex':List Addr}{H H1 H2:Hp}{h h1 h2 h':Heap}{a x e:Addr}{o:HO}
theorem Un.any (u:Un fs ex H H1 h h1){b:Addr}{ob:Obj}(q:h.get? b=some ob)(n:H b=none)(i:b∉ex):∃ sl,h1.get? b=some { ob with slots:=sl }:=by
 by_cases j:b∈fs
 .exact u.slot b ob q n j i
 .exact⟨ob.slots,u.keep b ob q n j i⟩
theorem Un.trans (a:Un fs ex H H1 h h1)(b:Un fs ex H1 H2 h1 h2):Un fs ex H H2 h h2 where
 keep:=fun c ob q n j i=>b.keep c ob (a.keep c ob q n j i) (a.free c ob q n i) j i
 slot:=fun c ob q n j i=>by
  obtain⟨sl,e1⟩:=a.slot c ob q n j i
  obtain⟨z,e2⟩:=b.slot c _ e1 (a.free c ob q n i) j i
  exact⟨z,e2⟩
 free:=fun c ob q n i=>by
  obtain⟨o',e1⟩:=a.there c ob q i
  exact b.free c o' e1 (a.free c ob q n i) i
 there:=fun c ob q i=>by
  obtain⟨o',e1⟩:=a.there c ob q i
  exact b.there c o' e1 i
 tups:=fun c xs q=>b.tups c xs (a.tups c xs q)
 frzs:=fun c ob xs q=>b.frzs c ob xs (a.frzs c ob xs q)
 tbls:=fun c ps q=>by
  obtain⟨m1,e1⟩:=a.tbls c ps q
  obtain⟨m2,e2⟩:=b.tbls c _ e1
  exact⟨m1++m2,by rw[e2,Array.append_assoc]⟩
theorem Un.kept (k:∀ b u,h.get? b=some u->h'.get? b=some u):Un fs ex H H h h':=
 ⟨fun b ob q _ _ _=>k b ob q,fun b ob q _ _ _=>⟨ob.slots,k b ob q⟩,fun _ _ _ n _=>n,fun b ob q _=>⟨ob,k b ob q⟩,fun _ _ q=>q,fun _ _ _ q=>q,fun _ ps q=>⟨#[],by rw[q];simp⟩⟩
theorem Un.refl:Un fs ex H H h h:=Un.kept fun _ _ q=>q
theorem Un.laid (k:∀ b u,h.get? b=some u->h'.get? b=some u)(hp:h.objs.size<=a)(hn:H a=none):Un fs ex H (upd H a o) h h' where
 keep:=fun b u q _ _ _=>k b u q
 slot:=fun b u q _ _ _=>⟨u.slots,k b u q⟩
 free:=fun b u q n _=>by rw[w5 (Nat.ne_of_lt (Nat.lt_of_lt_of_le (Heap.lt_size q) hp))];exact n
 there:=fun b u q _=>⟨u,k b u q⟩
 tups:=fun b xs q=>by rw[w5 (m7 q hn)];exact q
 frzs:=fun b u xs q=>by rw[w5 (m7 q hn)];exact q
 tbls:=fun b ps q=>⟨#[],by rw[w5 (m7 q hn),q];simp⟩
theorem Un.write (j:Mut (H x))(L:e=x\/H e=some (.own x))(k:∀ b u,b≠e->h.get? b=some u->h'.get? b=some u)(G:∃ u,h'.get? e=some u):Un fs ex H (upd H x o) h h':=by
 have I:∀ b,H b=none->b≠x:=fun b n z=>by subst z;rw[n]at j;exact j
 have J:∀ b,H b=none->b≠e:=fun b n z=>by
  subst z
  rcases L with r|r
  .exact I b n r
  .rw[n]at r;cases r
 have hm:∀ b u,H b=some u->¬ Mut (some u)->b≠x:=fun b u q nm z=>by subst z;rw[q]at j;exact nm j
 refine⟨fun b u q n _ _=>k b u (J b n) q,fun b u q n _ _=>⟨u.slots,k b u (J b n) q⟩,fun b u q n _=>by rw[w5 (I b n)];exact n,fun b u q _=>?_,
  fun b xs q=>by rw[w5 (hm b _ q fun z=>z)];exact q,fun b u xs q=>by rw[w5 (hm b _ q fun z=>z)];exact q,fun b ps q=>⟨#[],by rw[w5 (hm b _ q fun z=>z),q];simp⟩⟩
 by_cases i:b=e
 .subst i;exact G
 .exact⟨u,k b u i q⟩
theorem Un.mono (u:Un fs ex H H1 h h1)(G:∀ b∈fs,b∈fs')(j:∀ b∈ex,b∈ex'):Un fs' ex' H H1 h h1:=
 ⟨fun b ob q n I i=>u.keep b ob q n (fun z=>I (G b z)) fun z=>i (j b z),fun _ _ q n _ i=>u.any q n fun z=>i (j _ z),fun b ob q n i=>u.free b ob q n fun z=>i (j b z),fun b ob q i=>u.there b ob q fun z=>i (j b z),u.tups,u.frzs,u.tbls⟩
end
noncomputable def trk (h:Heap)(H:Hp):List Addr:=(List.range h.objs.size).filter fun a=>(H a).isSome
noncomputable def hidT (h:Heap)(H:Hp):Heap:=PySem.W.hideAll h (trk h H)
theorem hidT_size (h:Heap)(H:Hp):(hidT h H).objs.size=h.objs.size:=PySem.W.hideAll_size _ _
theorem hidT_get {h:Heap}{H:Hp}{b:Addr}{o:Obj}(e:h.get? b=some o)(n:H b=none):(hidT h H).get? b=some o:=
 PySem.W.hideAll_get _ e fun hm=>by
  have q:(H b).isSome=true:=(List.mem_filter.mp hm).2
  rw[n]at q;simp at q
theorem of_hidT {h:Heap}{H:Hp}{b:Addr}{o:Obj}(e:(hidT h H).get? b=some o):h.get? b=some o/\H b=none:=by
 have i:h.get? b=some o:=PySem.W.of_hideAll (trk h H) e
 refine⟨i,?_⟩
 cases q:H b with
 |none=>rfl
 |some x=>
  have hm:b∈trk h H:=List.mem_filter.mpr ⟨List.mem_range.mpr (Heap.lt_size i),by simp[q]⟩
  have z:(hidT h H).get? b=none:=PySem.W.hideAll_none (trk h H) hm
  rw[z]at e;cases e
noncomputable def allNews (g h:Heap)(L:Addr):List (Addr×Obj):=(List.range h.objs.size).filterMap fun a=>if a=L\/(g.get? a).isSome=true then none else (h.get? a).map fun o=>(a,o)
noncomputable def rest (g h:Heap)(L d:Addr):List (Addr×Obj):=(allNews g h L).filter fun p=>decide (p.1≠d)
end L2
namespace L2
open PySem PySem.Spec PyProof.Rows
structure Mod (K:PySem.W.Frag)(mg:Str->Option Value)(base:Heap):Prop where
 kin:K.In base
 glob:base.Ns mainGlobals mg
 blt:∃ mb,base.Ns builtinsNs mb/\∀ x:Str,x≠"__name__"->mb x=bootBuiltins x
 nolimit:base.NoLimit
structure Cx where
 prog:Program
 w:World
 K:PySem.W.Frag
 mg:Str->Option Value
 base:Heap
 A:Around
 N:List Str
 s₀:Shared
 H₀:Hp
 env:Env
 outer:List Env
 stack:List Env
 ex:List Addr
 fn:Str->Bool
 calm:Bool
 pn:List (Addr×Obj)
 xe:Value->Shared->Prop
noncomputable def frs (l:List Env):List Addr:=l.filterMap (·.frame)
noncomputable abbrev Cx.fs (X:Cx):List Addr:=frs X.outer
noncomputable def Vis (sc:Scope)(x:Str):Prop:=sc.names.lookup x=some .local\/sc.names.lookup x=some .cell\/sc.names.lookup x=some .free
noncomputable def Loc (sc:Scope)(x:Str):Prop:=sc.names.lookup x=some .local\/sc.names.lookup x=some .cell
noncomputable def Look (env:Env)(h:Heap)(m:Str->Option Value)(x:Str)(u:Value):Prop:=
 (env.kindOf x=some .local/\m x=some u)\/((env.kindOf x=some .cell\/env.kindOf x=some .free)/\∃ c,env.cells.lookup x=some c/\h.IsCell c (some u))
structure Cx.Ok (X:Cx):Prop where
 mod:Mod X.K X.mg X.base
 kind:X.env.scope.kind= .function
 glob:X.env.globals=mainGlobals
 blt:X.env.builtins=builtinsNs
 above:X.s₀.heap.objs.size<=X.env.locals
 inj:∀ x y c,X.env.cells.lookup x=some c->X.env.cells.lookup y=some c->x=y
 has:∀ x,(X.env.kindOf x=some .cell\/X.env.kindOf x=some .free)->∃ c,X.env.cells.lookup x=some c
 cab:∀ x c,X.fn x=true->X.env.cells.lookup x=some c->X.s₀.heap.objs.size<=c
 hd:X.calm=true->X.A.handled=none
 frames:X.A.frames=some X.stack
 stk:X.stack=X.outer\/(X.stack=X.env::X.outer/\X.env.frame=some X.env.locals)
 exf:∀ b∈X.ex,b≠X.env.locals/\∀ x c,X.env.cells.lookup x=some c->c≠b
 bs:∀ b o,X.base.get? b=some o->X.s₀.heap.get? b=some o/\X.H₀ b=none
 bsz:X.base.objs.size<=X.s₀.heap.objs.size
 noex:∀ b o,X.base.get? b=some o->b∉X.ex
 exfs:∀ b∈X.ex,b∉X.fs
 funs:X.s₀.heap.FunFrames X.base X.outer
 frf:∀ b∈X.fs,X.H₀ b=none
structure Inv (X:Cx)(pins:List (Addr×Obj))(σ:List (Option V))(H:Hp)(s:Shared):Prop where
 ok:X.Ok
 os:s.os=X.s₀.os
 bare:AllBare s.gens
 base:Un X.fs X.ex X.H₀ H X.s₀.heap s.heap
 loc:∃ m,s.heap.Ns X.env.locals m/\∀(i:Nat)(x:Str)(v:V),X.N[i]? =some x->σ[i]? =some (some v)->Vis X.env.scope x->∃ u,RelV v u/\Look X.env s.heap m x u
 cell:∀ x c,X.env.cells.lookup x=some c->∃ v,s.heap.IsCell c v
 free:H X.env.locals=none
 freeC:∀ x c,X.env.cells.lookup x=some c->H c=none
 pin:∀ p∈X.pn++pins,s.heap.get? p.1=some p.2/\H p.1=none/\p.1≠X.env.locals/\p.1∉X.fs/\∀ v,p.2.data≠ .cell v
 hok:HOk X.prog X.w H s.heap
 len:σ.length=X.N.length
section
variable {X:Cx}{pins:List (Addr×Obj)}{σ:List (Option V)}{H H':Hp}{s:Shared}{h':Heap}
theorem Cx.Ok.nofr (ok:X.Ok){b:Addr}{o:Obj}(e:X.base.get? b=some o):b∉X.fs:=fun i=>by
 have:=(ok.funs.mem i).1
 rw[e]at this;cases this
theorem Inv.bs (I:Inv X pins σ H s):∀ b o,X.base.get? b=some o->s.heap.get? b=some o/\H b=none:=fun b o e=>
 ⟨I.base.keep b o (I.ok.bs b o e).1 (I.ok.bs b o e).2 (I.ok.nofr e) (I.ok.noex b o e),I.base.free b o (I.ok.bs b o e).1 (I.ok.bs b o e).2 (I.ok.noex b o e)⟩
theorem Inv.bk (I:Inv X pins σ H s):∀ b o,X.base.get? b=some o->s.heap.get? b=some o:=fun b o e=>(I.bs b o e).1
theorem Inv.mod (I:Inv X pins σ H s):Mod X.K X.mg X.base:=I.ok.mod
theorem Inv.kIn (I:Inv X pins σ H s):X.K.In s.heap:=I.ok.mod.kin.keeps I.bk
theorem Inv.nolimit (I:Inv X pins σ H s):s.heap.NoLimit:=I.ok.mod.nolimit.keeps I.bk
theorem Inv.fr (I:Inv X pins σ H s):∃ m,Fr X.base X.env.locals s.heap m:=
 let ⟨m,hn,_⟩:=I.loc
 ⟨m,hn,I.bk,Nat.le_trans I.ok.bsz I.ok.above⟩
theorem Inv.lt (I:Inv X pins σ H s):X.env.locals<s.heap.objs.size:=let ⟨_,hn,_⟩:=I.loc;hn.lt
theorem Inv.sz (I:Inv X pins σ H s):X.s₀.heap.objs.size<=s.heap.objs.size:=Nat.le_trans I.ok.above (Nat.le_of_lt I.lt)
theorem Inv.nofs (I:Inv X pins σ H s){a:Addr}(h:s.heap.objs.size<=a):a∉X.fs:=fun j=>by
 obtain⟨_,o,i,_⟩:=I.ok.funs.mem j
 exact absurd (Nat.lt_of_lt_of_le (Heap.lt_size i) (Nat.le_trans I.sz h)) (Nat.lt_irrefl _)
theorem Inv.cne (I:Inv X pins σ H s):∀ x c,X.env.cells.lookup x=some c->c≠X.env.locals:=fun x c e z=>by
 obtain⟨v,o,q,hd⟩:=I.cell x c e
 obtain⟨m,⟨o',es,ep,i,j,_⟩,_⟩:=I.loc
 rw[z,i]at q;cases q;rw[j]at hd;cases hd
theorem Inv.funs (I:Inv X pins σ H s):s.heap.FunFrames X.base X.outer:=by
 have all:∀(l:List Env),(∀ b∈frs l,b∈X.fs)->X.s₀.heap.FunFrames X.base l->s.heap.FunFrames X.base l:=by
  intro l
  induction l with
  |nil=>intro _ _;trivial
  |cons env r J=>
   intro G O
   obtain⟨R,⟨L,o,i,hn,N,hd⟩,M⟩:=O
   have q:L∈X.fs:=G L (by unfold frs;rw[List.filterMap_cons,i];exact List.mem_cons_self)
   obtain⟨sl,e⟩:=I.base.slot L o N (I.ok.frf L q) q fun z=>I.ok.exfs L z q
   exact⟨R,⟨L,_,i,hn,e,hd⟩,J (fun b j=>G b (by unfold frs;rw[List.filterMap_cons,i];exact List.mem_cons_of_mem _ j)) M⟩
 exact all X.outer (fun _ j=>j) I.ok.funs
theorem Inv.stack (I:Inv X pins σ H s):s.heap.FunFrames X.base X.stack:=by
 rcases I.ok.stk with e|⟨e,i⟩
 .rw[e];exact I.funs
 .rw[e]
  obtain⟨m,hn,_⟩:=I.loc
  refine .cons (by rw[I.ok.kind];decide) i hn ?_ I.funs
  exact Heap.get?_none_of_le (Nat.le_trans I.ok.bsz I.ok.above)
theorem Inv.stkSub (I:Inv X pins σ H s):∀ b∈frs X.stack,b∈X.env.locals::X.fs:=fun b i=>by
 rcases I.ok.stk with e|⟨e,j⟩
 .rw[e]at i;exact List.mem_cons_of_mem _ i
 .rw[e]at i
  unfold frs at i
  rw[List.filterMap_cons,j]at i
  exact i
theorem Inv.stkFree (I:Inv X pins σ H s):∀ b∈frs X.stack,H b=none:=fun b i=>by
 rcases List.mem_cons.mp (I.stkSub b i)with e|i
 .rw[e];exact I.free
 .obtain⟨_,o,ho,_⟩:=I.ok.funs.mem i
  exact I.base.free b o ho (I.ok.frf b i) fun z=>I.ok.exfs b z i
theorem Inv.step {g':Array GenState}{t':Nat}{d':Drawn}{ch:List Addr}(I:Inv X pins σ H s)
  (J:∀ b∈ch,(b∈X.ex\/X.s₀.heap.objs.size<=b)/\b≠X.env.locals/\(∀ x c,X.env.cells.lookup x=some c->c≠b)/\∀ p∈X.pn++pins,p.1≠b)
  (keep:∀ b o,b≠X.env.locals->b∉X.fs->b∉ch->s.heap.get? b=some o->H b=none->h'.get? b=some o)
  (slot:∀ b o,b≠X.env.locals->b∈X.fs->b∉ch->s.heap.get? b=some o->H b=none->∃ sl,h'.get? b=some { o with slots:=sl }) (free:∀ b o,b∉ch->s.heap.get? b=some o->H b=none->H' b=none)
  (there:∀ b o,b∉ch->s.heap.get? b=some o->∃ o',h'.get? b=some o')
  (tups:∀ b xs,H b=some (.tup xs)->H' b=some (.tup xs)) (frzs:∀ b o u,H b=some (.frz o u)->H' b=some (.frz o u)) (tbls:∀ b ps,H b=some (.tbl ps)->∃ more,H' b=some (.tbl (ps++more)))
  (ns:∀ m,s.heap.Ns X.env.locals m->h'.Ns X.env.locals m) (hok:HOk X.prog X.w H' h') (Z:AllBare g'):
  Inv X pins σ H' { s with heap:=h',gens:=g',drawn:=d',toks:=t' }:=by
 have R:∀ b o,X.s₀.heap.get? b=some o->b≠X.env.locals:=fun b o e=>Nat.ne_of_lt (Nat.lt_of_lt_of_le (Heap.lt_size e) I.ok.above)
 have M:∀ b o,X.s₀.heap.get? b=some o->b∉X.ex->b∉ch:=fun b o e j N=>by
  rcases (J b N).1 with z|z
  .exact j z
  .exact absurd (Nat.lt_of_lt_of_le (Heap.lt_size e) z) (Nat.lt_irrefl _)
 have L:∀ x c,X.env.cells.lookup x=some c->∀ v,s.heap.IsCell c v->h'.IsCell c v:=fun x c e v S=>by
  obtain⟨o,O,hd⟩:=S
  have G:c∉ch:=fun z=>(J c z).2.2.1 x c e rfl
  by_cases Y:c∈X.fs
  .obtain⟨sl,q⟩:=slot c o (I.cne x c e) Y G O (I.freeC x c e)
   exact⟨_,q,hd⟩
  .exact⟨o,keep c o (I.cne x c e) Y G O (I.freeC x c e),hd⟩
 refine⟨I.ok,I.os,Z,⟨fun b o e n N j=>?_,fun b o e n N j=>?_,fun b o e n j=>?_,fun b o e j=>?_,fun b xs e=>tups b xs (I.base.tups b xs e),fun b o xs e=>frzs b o xs (I.base.frzs b o xs e),fun b ps e=>?_⟩,?_,fun x c e=>?_,?_,fun x c e=>?_,fun p hp=>?_,hok,I.len⟩
 .exact keep b o (R b o e) N (M b o e j) (I.base.keep b o e n N j) (I.base.free b o e n j)
 .obtain⟨sl,e1⟩:=I.base.slot b o e n N j
  obtain⟨U,e2⟩:=slot b _ (R b o e) N (M b o e j) e1 (I.base.free b o e n j)
  exact⟨U,e2⟩
 .obtain⟨o',e1⟩:=I.base.there b o e j
  exact free b o' (M b o e j) e1 (I.base.free b o e n j)
 .obtain⟨o',e1⟩:=I.base.there b o e j
  exact there b o' (M b o e j) e1
 .obtain⟨m1,e1⟩:=I.base.tbls b ps e
  obtain⟨m2,e2⟩:=tbls b _ e1
  exact⟨m1++m2,by rw[e2,Array.append_assoc]⟩
 .obtain⟨m,hn,hl⟩:=I.loc
  refine⟨m,ns m hn,fun i x v e1 e2 e3=>?_⟩
  obtain⟨u,r,l⟩:=hl i x v e1 e2 e3
  refine⟨u,r,?_⟩
  rcases l with l|⟨k,c,e,z⟩
  .exact .inl l
  .exact .inr ⟨k,c,e,L x c e _ z⟩
 .obtain⟨v,z⟩:=I.cell x c e
  exact⟨v,L x c e v z⟩
 .obtain⟨m,⟨o,_,_,O,_⟩,_⟩:=I.loc
  exact free _ o (fun z=>(J _ z).2.1 rfl) O I.free
 .obtain⟨v,o,O,hd⟩:=I.cell x c e
  exact free c o (fun z=>(J c z).2.2.1 x c e rfl) O (I.freeC x c e)
 .obtain⟨e,n,ne,nf,d⟩:=I.pin p hp
  have G:p.1∉ch:=fun z=>(J p.1 z).2.2.2 p hp rfl
  exact⟨keep p.1 p.2 ne nf G e n,free p.1 p.2 G e n,ne,nf,d⟩
theorem Inv.un {t':Nat}(I:Inv X pins σ H s)(u:Un X.fs [] H H' s.heap h')(hok:HOk X.prog X.w H' h'):Inv X pins σ H' { s with heap:=h',toks:=t' }:=by
 obtain⟨m,⟨o,es,ep,J,r⟩,_⟩:=id I.loc
 obtain⟨sl,M⟩:=u.any J I.free (by simp)
 exact I.step (g':=s.gens) (d':=s.drawn) (ch:=[]) (fun _ z=>nomatch z) (fun b o _ j _ e n=>u.keep b o e n j (by simp)) (fun b o _ j _ e n=>u.slot b o e n j (by simp)) (fun b o _ e n=>u.free b o e n (by simp)) (fun b o _ e=>u.there b o e (by simp)) u.tups u.frzs u.tbls (fun N hm=>by
  obtain⟨o',q,G,i,L⟩:=hm
  rw[J]at i;cases i
  exact⟨_,q,G,M,L⟩) hok I.bare
theorem Inv.call {g':Array GenState}{t':Nat}{d':Drawn}{ch:List Addr}(I:Inv X pins σ H s)(u:Un (frs X.stack) ch H H' s.heap h')(hok:HOk X.prog X.w H' h')(O:AllBare g')
  (q:∀ b∈ch,(b∈X.ex\/X.s₀.heap.objs.size<=b)/\b≠X.env.locals/\(∀ x c,X.env.cells.lookup x=some c->c≠b)/\∀ p∈X.pn++pins,p.1≠b):
  Inv X pins σ H' { s with heap:=h',gens:=g',drawn:=d',toks:=t' }:=by
 obtain⟨m,⟨o,es,ep,M,r⟩,_⟩:=id I.loc
 obtain⟨sl,G⟩:=u.any M I.free fun z=>(q _ z).2.1 rfl
 exact I.step (ch:=ch) q (fun b o G R i e n=>u.keep b o e n (fun z=>(List.mem_cons.mp (I.stkSub b z)).elim G R) i) (fun b o _ _ i e n=>u.any e n i) (fun b o i e n=>u.free b o e n i) (fun b o i e=>u.there b o e i) u.tups u.frzs u.tbls (fun S hm=>by
  obtain⟨o',J,L,j,N⟩:=hm
  rw[M]at j;cases j
  exact⟨_,J,L,G,N⟩) hok O
theorem Inv.turned {t':Nat}{it:Addr}(I:Inv X pins σ H s)(k:∀ b o,b≠it->s.heap.get? b=some o->h'.get? b=some o)(hn:H it=none)(G:it≠X.env.locals)
  (h1:it∈X.ex\/X.s₀.heap.objs.size<=it) (h2:∀ x c,X.env.cells.lookup x=some c->c≠it) (L:∀ p∈X.pn++pins,p.1≠it):Inv X pins σ H { s with heap:=h',toks:=t' }:=by
 have j:∀ b u,H b=some u->b≠it:=fun b u e z=>by rw[z,hn]at e;cases e
 refine I.step (g':=s.gens) (d':=s.drawn) (ch:=[it]) (fun b J=>?_) (fun b o _ _ i e _=>k b o (fun z=>i (by simp[z])) e) (fun b o _ _ i e _=>⟨o.slots,k b o (fun z=>i (by simp[z])) e⟩) (fun _ _ _ _ n=>n)
  (fun b o i e=>⟨o,k b o (fun z=>i (by simp[z])) e⟩) (fun _ _ e=>e) (fun _ _ _ e=>e) (fun b ps e=>⟨#[],by rw[e];simp⟩) (fun m hm=>?_) (fun b u e=>?_) I.bare
 .have e:b=it:=by simpa using J
  subst e
  exact⟨h1,G,h2,L⟩
 .obtain⟨o,es,ep,ho,r⟩:=hm
  exact⟨o,es,ep,k _ o (Ne.symm G) ho,r⟩
 .refine(I.hok b u e).stay (fun c v i q=>k c v ?_ q) (fun _ q=>q) fun _ _ q=>q
  rcases i with z|z
  .rw[z];exact j b u e
  .exact j c _ z
theorem Inv.tok (I:Inv X pins σ H s)(t:Nat):Inv X pins σ H { s with toks:=t }:=I.un (h':=s.heap) (t':=t) Un.refl I.hok
theorem Inv.kept {t':Nat}(I:Inv X pins σ H s)(k:∀ b u,s.heap.get? b=some u->h'.get? b=some u):Inv X pins σ H { s with heap:=h',toks:=t' }:=I.un (Un.kept k) (I.hok.kept k)
theorem Inv.laid {a:Addr}{o:HO}{t':Nat}(I:Inv X pins σ H s)(k:∀ b u,s.heap.get? b=some u->h'.get? b=some u)(hp:s.heap.objs.size<=a)(new:ObjOk X.prog X.w (upd H a o) h' a o):
  Inv X pins σ (upd H a o) { s with heap:=h',toks:=t' }:=I.un (Un.laid k hp (I.hok.fresh hp)) (I.hok.laid k hp new)
theorem Inv.write {x e:Addr}{o:HO}{t':Nat}(I:Inv X pins σ H s)(j:Mut (H x))(q:e=x\/H e=some (.own x))(k:∀ b u,b≠e->s.heap.get? b=some u->h'.get? b=some u)(i:∃ u,h'.get? e=some u)
  (new:ObjOk X.prog X.w (upd H x o) h' x o):Inv X pins σ (upd H x o) { s with heap:=h',toks:=t' }:=I.un (Un.write j q k i) (I.hok.write j q k i new)
theorem Inv.pins_of {pins':List (Addr×Obj)}(I:Inv X pins σ H s)(h:∀ p∈pins',s.heap.get? p.1=some p.2/\H p.1=none/\p.1≠X.env.locals/\p.1∉X.fs/\∀ v,p.2.data≠ .cell v):Inv X pins' σ H s:=
 ⟨I.ok,I.os,I.bare,I.base,I.loc,I.cell,I.free,I.freeC,fun p hp=>(List.mem_append.mp hp).elim (fun z=>I.pin p (List.mem_append_left _ z)) (h p),I.hok,I.len⟩
theorem nodup_ix {N:List Str}(q:N.Nodup){i j:Nat}{x:Str}(a:N[i]? =some x)(b:N[j]? =some x):i=j:=by
 obtain⟨h1,e1⟩:=List.getElem?_eq_some_iff.mp a
 obtain⟨h2,e2⟩:=List.getElem?_eq_some_iff.mp b
 exact(List.getElem_inj q).mp (e1.trans e2.symm)
theorem store_ok2 {M:Model}{A:Around}{E:Value->Shared->Prop}{i:Nat}{x:Str}{v:V}{u:Value}{Q:Unit->Shared->Prop}(I:Inv X pins σ H s)(hN:X.N.Nodup)(hi:X.N[i]? =some x)(O:Loc X.env.scope x)(r:RelV v u)
  (h:∀ s',Inv X pins (σ.set i (some v)) H s'->(∃ a,Heap.SameBut a s.heap s'.heap/\(a=X.env.locals\/X.env.cells.lookup x=some a))->Q () s') (hf:X.fn x=true\/X.env.scope.names.lookup x=some .local:=by first|exact .inl rfl|exact .inr rfl|assumption):wpAny M A (storeName X.env x u) Q E s:=by
 obtain⟨m,hn,hl⟩:=id I.loc
 have a1:(X.env.scope.kind== .class || (X.env.scope.kind== .module&&X.env.locals != X.env.globals))=false:=by rw[I.ok.kind];rfl
 have U:i<σ.length:=by rw[I.len];exact(List.getElem?_eq_some_iff.mp hi).1
 have cne:=I.cne
 have J:∀{a:Addr}{h':Heap},(∃ o,s.heap.get? a=some o/\H a=none)->Heap.SameBut a s.heap h'->HOk X.prog X.w H h':=fun{a h'} ha G b ob e=>by
  obtain⟨_,_,R⟩:=ha
  refine(I.hok b ob e).stay (fun c w' L q=>(G.2 c ?_).trans q) (fun _ q=>q) fun _ _ q=>q
  rintro rfl
  rcases L with rfl|L
  .rw[R]at e;cases e
  .rw[R]at L;cases L
 rcases O with S|S
 .refine wpAny_storeName_local S hn (fun h' a4 G=>?_) a1
  obtain⟨oL,_,_,a3,_⟩:=id hn
  refine h _ ⟨I.ok,I.os,I.bare,⟨fun b o e n Y O=>?_,fun b o e n Y O=>?_,I.base.free,fun b o e O=>?_,I.base.tups,I.base.frzs,I.base.tbls⟩,⟨_,a4,fun j y v' e1 e2 e3=>?_⟩,fun y c e=>?_,I.free,I.freeC,fun p hp=>?_,J ⟨oL,a3,I.free⟩ G,by simpa using I.len⟩ ⟨_,G,.inl rfl⟩
  .exact(G.2 b (Nat.ne_of_lt (Nat.lt_of_lt_of_le (Heap.lt_size e) I.ok.above))).trans (I.base.keep b o e n Y O)
  .obtain⟨sl,e1⟩:=I.base.slot b o e n Y O
   exact⟨sl,(G.2 b (Nat.ne_of_lt (Nat.lt_of_lt_of_le (Heap.lt_size e) I.ok.above))).trans e1⟩
  .obtain⟨o',e1⟩:=I.base.there b o e O
   exact⟨o',(G.2 b (Nat.ne_of_lt (Nat.lt_of_lt_of_le (Heap.lt_size e) I.ok.above))).trans e1⟩
  .by_cases hj:j=i
   .subst hj
    rw[hi]at e1;cases e1
    rw[List.getElem?_set_self U]at e2
    cases e2
    exact⟨u,r,.inl ⟨S,by simp⟩⟩
   .rw[List.getElem?_set_ne (Ne.symm hj)]at e2
    obtain⟨u',r',q⟩:=hl j y v' e1 e2 e3
    refine⟨u',r',?_⟩
    rcases q with⟨k,e⟩|⟨k,c,e,z⟩
    .refine .inl ⟨k,?_⟩
     have:y≠x:=fun e=>hj (nodup_ix hN e1 (e ▸ hi))
     simp[this,e]
    .exact .inr ⟨k,c,e,z.sameBut G (cne y c e)⟩
  .obtain⟨w',z⟩:=I.cell y c e
   exact⟨w',z.sameBut G (cne y c e)⟩
  .obtain⟨e,n,ne,nf,d⟩:=I.pin p hp
   exact⟨(G.2 p.1 ne).trans e,n,ne,nf,d⟩
 .have hfn:X.fn x=true:=by
   rcases hf with z|z
   .exact z
   .rw[z]at S;cases S
  obtain⟨c,L⟩:=I.ok.has x (.inl S)
  obtain⟨w',z⟩:=I.cell x c L
  refine wpAny_storeName_cell I.ok.kind S L z (fun h' a2 G=>?_)
  obtain⟨oc,a0,Z⟩:=id z
  refine h { s with heap:=h' } ⟨I.ok,I.os,I.bare,⟨fun b o e n Y O=>?_,fun b o e n Y O=>?_,I.base.free,fun b o e O=>?_,I.base.tups,I.base.frzs,I.base.tbls⟩,⟨m,hn.sameBut G (Ne.symm (cne x c L)),fun j y v' e1 e2 e3=>?_⟩,fun y c' e=>?_,I.free,I.freeC,fun p hp=>?_,J ⟨oc,a0,I.freeC x c L⟩ G,by simpa using I.len⟩ ⟨c,G,.inr L⟩
  .exact(G.2 b (Nat.ne_of_lt (Nat.lt_of_lt_of_le (Heap.lt_size e) (I.ok.cab x c hfn L)))).trans (I.base.keep b o e n Y O)
  .obtain⟨sl,e1⟩:=I.base.slot b o e n Y O
   exact⟨sl,(G.2 b (Nat.ne_of_lt (Nat.lt_of_lt_of_le (Heap.lt_size e) (I.ok.cab x c hfn L)))).trans e1⟩
  .obtain⟨o',e1⟩:=I.base.there b o e O
   exact⟨o',(G.2 b (Nat.ne_of_lt (Nat.lt_of_lt_of_le (Heap.lt_size e) (I.ok.cab x c hfn L)))).trans e1⟩
  .by_cases hj:j=i
   .subst hj
    rw[hi]at e1;cases e1
    rw[List.getElem?_set_self U]at e2
    cases e2
    exact⟨u,r,.inr ⟨.inl S,c,L,a2⟩⟩
   .rw[List.getElem?_set_ne (Ne.symm hj)]at e2
    obtain⟨u',r',q⟩:=hl j y v' e1 e2 e3
    refine⟨u',r',?_⟩
    rcases q with q|⟨k,c',e,z'⟩
    .exact .inl q
    .refine .inr ⟨k,c',e,z'.sameBut G ?_⟩
     rintro rfl
     exact hj (nodup_ix hN e1 (I.ok.inj _ _ _ e L ▸ hi))
  .by_cases hcc:c'=c
   .subst hcc;exact⟨_,a2⟩
   .obtain⟨w2,z2⟩:=I.cell y c' e
    exact⟨w2,z2.sameBut G hcc⟩
  .obtain⟨e,n,ne,nf,d⟩:=I.pin p hp
   refine⟨(G.2 p.1 ?_).trans e,n,ne,nf,d⟩
   intro q
   rw[q,a0]at e
   have q':oc=p.2:=Option.some.inj e
   exact d w' (by rw[<-q'];exact Z)
theorem store_ok {M:Model}{A:Around}{E:Value->Shared->Prop}{i:Nat}{x:Str}{v:V}{u:Value}{Q:Unit->Shared->Prop}(I:Inv X pins σ H s)(z:X.N.Nodup)(hi:X.N[i]? =some x)(j:Loc X.env.scope x)(r:RelV v u)
  (h:∀ s',Inv X pins (σ.set i (some v)) H s'->Q () s') (q:X.fn x=true\/X.env.scope.names.lookup x=some .local:=by first|exact .inl rfl|exact .inr rfl|assumption):wpAny M A (storeName X.env x u) Q E s:=
 store_ok2 I z hi j r (fun s' G _=>h s' G) q
theorem Inv.call' {s':Shared}{ch:List Addr}(I:Inv X pins σ H s)(j:s'.os=s.os)(u:Un (frs X.stack) ch H H' s.heap s'.heap)(hok:HOk X.prog X.w H' s'.heap)(q:AllBare s'.gens)
  (i:∀ b∈ch,(b∈X.ex\/X.s₀.heap.objs.size<=b)/\b≠X.env.locals/\(∀ x c,X.env.cells.lookup x=some c->c≠b)/\∀ p∈X.pn++pins,p.1≠b):Inv X pins σ H' s':=by
 obtain⟨h',g',d',t',o'⟩:=s'
 have e:o'=s.os:=j
 subst e
 exact I.call (g':=g') (t':=t') (d':=d') u hok q i
end
noncomputable abbrev XK:=Value->Option Addr->Hp->Prop
noncomputable abbrev St:=List (Option V)
noncomputable abbrev VK:=V->Hp->Prop
noncomputable abbrev TE:=St->Hp->VK->Prop
noncomputable abbrev TT:=St->Hp->(Bool->Hp->Prop)->Prop
noncomputable abbrev TA:=St->Hp->(List V->Hp->Prop)->Prop
structure Ends where
 nx:St->Hp->Prop
 rt:VK
 bk:St->Hp->Prop:=fun _ _=>False
 ct:St->Hp->Prop:=fun _ _=>False
noncomputable abbrev TS:=Ends->St->Hp->Prop
noncomputable def EP (X:Cx)(pins:List (Addr×Obj))(σ:St)(Q:VK)(u:Value)(s':Shared):Prop:=∃ v H',Inv X pins σ H' s'/\RelV v u/\Q v H'
noncomputable def TP (X:Cx)(pins:List (Addr×Obj))(σ:St)(Q:Bool->Hp->Prop)(b:Bool)(s':Shared):Prop:=∃ H',Inv X pins σ H' s'/\Q b H'
noncomputable def AP (X:Cx)(pins:List (Addr×Obj))(σ:St)(Q:List V->Hp->Prop)(us:List Value)(s':Shared):Prop:=∃ vs H',Inv X pins σ H' s'/\Vals vs us/\Q vs H'
noncomputable def SP (X:Cx)(pins:List (Addr×Obj))(D:Ends)(f:Flow)(s':Shared):Prop:=
 match f with
 | .next=>∃ σ' H',Inv X pins σ' H' s'/\D.nx σ' H'
 | .brk=>∃ σ' H',Inv X pins σ' H' s'/\D.bk σ' H'
 | .cont=>∃ σ' H',Inv X pins σ' H' s'/\D.ct σ' H'
 | .ret u=>∃ v σ' H',Inv X pins σ' H' s'/\RelV v u/\D.rt v H'
noncomputable def PE (X:Cx)(e:Expr)(t:TE):Prop:=
 ∀(pins:List (Addr×Obj))(s:Shared)(σ:St)(H:Hp)(Q:VK),Inv X pins σ H s->t σ H Q->wpAny (model X.prog X.w) X.A (eval e X.env) (EP X pins σ Q) X.xe s
noncomputable def PT (X:Cx)(e:Expr)(t:TT):Prop:=
 ∀(pins:List (Addr×Obj))(s:Shared)(σ:St)(H:Hp)(Q:Bool->Hp->Prop),Inv X pins σ H s->t σ H Q->wpAny (model X.prog X.w) X.A (isTrue e X.env (eval e X.env)) (TP X pins σ Q) X.xe s
noncomputable def PW (X:Cx)(e:Expr)(t:TT):Prop:=
 ∀(whole:Sem Value)(pins:List (Addr×Obj))(s:Shared)(σ:St)(H:Hp)(Q:Bool->Hp->Prop),Inv X pins σ H s->t σ H Q->wpAny (model X.prog X.w) X.A (isTrue e X.env whole) (TP X pins σ Q) X.xe s
theorem PW.pt {X:Cx}{e:Expr}{t:TT}(h:PW X e t):PT X e t:=h _
noncomputable def PA (X:Cx)(es:List Expr)(t:TA):Prop:=
 ∀(pos:Pos)(pins:List (Addr×Obj))(s:Shared)(σ:St)(H:Hp)(Q:List V->Hp->Prop),Inv X pins σ H s->t σ H Q->wpAny (model X.prog X.w) X.A (spliced (backTo pos (starEach es X.env))) (AP X pins σ Q) X.xe s
noncomputable def PS (X:Cx)(st:Stmt)(t:TS):Prop:=
 ∀(pins:List (Addr×Obj))(s:Shared)(σ:St)(H:Hp)(D:Ends),Inv X pins σ H s->t D σ H->wpAny (model X.prog X.w) X.A (exec st X.env) (SP X pins D) X.xe s
noncomputable def PSs (X:Cx)(st:List Stmt)(t:TS):Prop:=
 ∀(pins:List (Addr×Obj))(s:Shared)(σ:St)(H:Hp)(D:Ends),Inv X pins σ H s->t D σ H->wpAny (model X.prog X.w) X.A (execs st X.env) (SP X pins D) X.xe s
theorem thn {i:Type}{t:Sem i}{Q j:i->Shared->Prop}{M:Model}{A:Around}{E:Value->Shared->Prop}{s:Shared}(h:wpAny M A t Q E s)(q:∀ a s,Q a s->j a s):wpAny M A t j E s:=wpAny_mono h q fun _ _ x=>x
end L2
namespace L2
open PySem PySem.Spec PyProof.Rows
section
variable {X:Cx}
noncomputable def tVar (i:Nat):TE:=fun σ H Q=>∃ v,σ[i]? =some (some v)/\Q v H
noncomputable def tC (v:V):TE:=fun _ H Q=>Q v H
theorem pe_var {i:Nat}{x:Str}{pos:Pos}(M:X.N[i]? =some x)(J:Vis X.env.scope x)(hd:(x==("__debug__":Str))=false:=by decide)(z:(x==("__classdict__":Str))=false:=by decide):PE X (.Name x pos) (tVar i):=by
 intro pins s σ H Q I h
 obtain⟨v,e,h⟩:=h
 obtain⟨m,hn,L⟩:=I.loc
 obtain⟨u,r,l⟩:=L i x v M e J
 have fin:EP X pins σ Q u s:=⟨v,H,I,r,h⟩
 rcases l with⟨q,hm⟩|⟨q,c,G,j⟩
 .exact wpAny_Name (wpAny_loadName_local I.ok.kind q hn hm fin) hd
 .rcases q with q|q
  .exact wpAny_Name (wpAny_loadName_cell I.ok.kind q G j fin) hd
  .exact wpAny_Name (wpAny_loadName_free I.ok.kind q G j fin z) hd
theorem pe_int {i j pos}:PE X (.Constant (.int i) j pos) (tC (.int i)):=fun _ _ _ H _ I h=>wpAny_Constant_int ⟨.int i,H,I.tok _,⟨_,rfl⟩,h⟩
theorem pe_bl {b j pos}:PE X (.Constant (.bool b) j pos) (tC (.bl b)):=fun _ _ _ H _ I h=>Constant_bool ⟨.bl b,H,I,rfl,h⟩
theorem pe_non {j pos}:PE X (.Constant .none j pos) (tC .non):=fun _ _ _ H _ I h=>Constant_none ⟨.non,H,I,rfl,h⟩
noncomputable def Gl (X:Cx)(x:Str):Prop:=X.env.kindOf x=some .globalImplicit
theorem ld_glob {E:Value->Shared->Prop}{pins:List (Addr×Obj)}{s:Shared}{σ:St}{H:Hp}{x:Str}{u:Value}{pos:Pos}{Q:Value->Shared->Prop}(I:Inv X pins σ H s)(i:Gl X x)(hm:X.mg x=some u)(h:Q u s)
  (hd:(x==("__debug__":Str))=false:=by decide):wpAny (model X.prog X.w) X.A (eval (.Name x pos) X.env) Q E s:=
 Calls.Name_function_global I.ok.kind i (Calls.loadGlobal_global (by rw[I.ok.glob];exact I.mod.glob.keeps I.bk) hm h) hd
theorem X2 {E:Value->Shared->Prop}{pins:List (Addr×Obj)}{s:Shared}{σ:St}{H:Hp}{x:Str}{u:Value}{pos:Pos}{Q:Value->Shared->Prop}(I:Inv X pins σ H s)(j:Gl X x)(hm:X.mg x=none)(i:bootBuiltins x=some u)(h:Q u s)
  (hn:x≠"__name__":=by decide) (hd:(x==("__debug__":Str))=false:=by decide):wpAny (model X.prog X.w) X.A (eval (.Name x pos) X.env) Q E s:=by
 obtain⟨mb,h1,h2⟩:=I.mod.blt
 exact Calls.Name_function_global I.ok.kind j (Calls.loadGlobal_builtin (by rw[I.ok.glob];exact I.mod.glob.keeps I.bk) hm (by rw[I.ok.blt];exact h1.keeps I.bk) ((h2 x hn).trans i) h) hd
theorem pe_glob {x:Str}{v:V}{u:Value}{pos:Pos}(i:Gl X x)(hm:X.mg x=some u)(r:RelV v u)(hd:(x==("__debug__":Str))=false:=by decide):PE X (.Name x pos) (tC v):=
 fun _ _ _ H _ I h=>ld_glob I i hm ⟨v,H,I,r,h⟩ hd
variable {a b:Expr}{ta tb:TE}{pos:Pos}
variable {tA tB':TT}{rest:List Expr}
noncomputable def tAnd (t u:TT):TT:=fun σ H Q=>t σ H fun c H1=>if c=true then u σ H1 Q else Q false H1
noncomputable def tOr (t u:TT):TT:=fun σ H Q=>t σ H fun c H1=>if c=true then Q true H1 else u σ H1 Q
noncomputable def tNot (t:TT):TT:=fun σ H Q=>t σ H fun c H1=>Q (!c) H1
theorem pw_and1 (ha:PT X a tA):PW X (.BoolOp .And [a] pos) tA:=by
 intro i pins s σ H Q I h
 refine isTrue_and (thn (ha pins s σ H Q I h) fun c s1 e=>?_)
 cases c with
 |true=>exact isTrue_and_nil e
 |false=>exact e
theorem pw_or1 (ha:PT X a tA):PW X (.BoolOp .Or [a] pos) tA:=by
 intro i pins s σ H Q I h
 refine isTrue_or (thn (ha pins s σ H Q I h) fun c s1 e=>?_)
 cases c with
 |false=>exact isTrue_or_nil e
 |true=>exact e
theorem pw_and (ha:PT X a tA)(G:PW X (.BoolOp .And (b::rest) pos) tB'):PW X (.BoolOp .And (a::b::rest) pos) (tAnd tA tB'):=by
 intro z pins s σ H Q I h
 refine isTrue_and (thn (ha pins s σ H _ I h) fun c s1 i=>?_)
 obtain⟨H1,q,j⟩:=i
 cases c with
 |true=>exact G z pins s1 σ H1 Q q j
 |false=>exact⟨H1,q,j⟩
theorem pw_or (ha:PT X a tA)(G:PW X (.BoolOp .Or (b::rest) pos) tB'):PW X (.BoolOp .Or (a::b::rest) pos) (tOr tA tB'):=by
 intro z pins s σ H Q I h
 refine isTrue_or (thn (ha pins s σ H _ I h) fun c s1 i=>?_)
 obtain⟨H1,q,j⟩:=i
 cases c with
 |true=>exact⟨H1,q,j⟩
 |false=>exact G z pins s1 σ H1 Q q j
theorem pt_not (ha:PT X a tA):PT X (.UnaryOp .Not a pos) (tNot tA):=by
 intro pins s σ H Q I h
 exact isTrue_not (ha pins s σ H (fun c H1=>Q (!c) H1) I h)
noncomputable def tAndV (ta tb:TE):TE:=fun σ H Q=>ta σ H fun x H1=>∃ c,x= .bl c/\if c=true then tb σ H1 Q else Q (.bl false) H1
theorem pe_one {op}{t:TE}(h:PE X a t):PE X (.BoolOp op [a] pos) t:=fun pins s σ H Q I hw=>BoolOp_one (h pins s σ H Q I hw)
theorem pe_and (ha:PE X a ta)(z:PE X (.BoolOp .And (b::rest) pos) tb):PE X (.BoolOp .And (a::b::rest) pos) (tAndV ta tb):=by
 intro pins s σ H Q I h
 refine BoolOp_and (thn (ha pins s σ H _ I h) fun v s1 i=>?_)
 obtain⟨x,H1,q,r1,j⟩:=i
 obtain⟨c,rfl,j⟩:=j
 cases r1
 refine wpAny_truthy_bool ?_
 cases c with
 |true=>exact z pins s1 σ H1 Q q j
 |false=>exact⟨.bl false,H1,q,rfl,j⟩
end
end L2
namespace L2
open PySem PySem.Spec PyProof.Rows
noncomputable def SqL (K:PySem.W.Frag)(H:Hp)(a:Addr)(xs:List V):Prop:=
 Rd H a (.lst xs)\/
  ∃(o:Obj)(its:Array Value)(n:Nat),K.lookup a=some o/\o.cls= .type "list"/\o.dict=none/\o.data= .seq its n/\its.size<=sizeLine/\Vals xs its.toList
noncomputable def SqT (K:PySem.W.Frag)(H:Hp)(a:Addr)(xs:List V):Prop:=
 Rd H a (.tup xs)\/
  ∃(o:Obj)(its:Array Value)(n:Nat),K.lookup a=some o/\o.cls= .type "tuple"/\o.data= .seq its n/\its.size<=sizeLine/\Vals xs its.toList
noncomputable def absV:Value->Option V
 | .none=>some .non
 | .bool b=>some (.bl b)
 | .int i _=>some (.int i)
 | .str x _=>some (.str x)
 | .bytes b _=>some (.byt b)
 | .float b _=>some (.flt b)
 | .ref a=>some (.ref a)
 | .type n=>some (.ty n)
 |_=>none
theorem RelV.abs {x:V}{u:Value}(r:RelV x u):absV u=some x:=by
 cases x with
 |non=>cases r;rfl
 |bl _=>cases r;rfl
 |int _=>obtain⟨t,rfl⟩:=r;rfl
 |str _=>obtain⟨t,rfl⟩:=r;rfl
 |byt _=>obtain⟨t,rfl⟩:=r;rfl
 |flt _=>obtain⟨t,rfl⟩:=r;rfl
 |ref _=>cases r;rfl
 |ty _=>cases r;rfl
theorem RelV.inj {x y:V}{u:Value}(r:RelV x u)(q:RelV y u):x=y:=Option.some.inj (r.abs.symm.trans q.abs)
theorem Vals.inj:∀{xs ys:List V}{us:List Value},Vals xs us->Vals ys us->xs=ys
 |_,_,_,.nil,.nil=>rfl
 |_,_,_,.cons r t,.cons r' t'=>by rw[r.inj r',Vals.inj t t']
section
variable {X:Cx}{pins:List (Addr×Obj)}{σ:St}{H:Hp}{s:Shared}{a:Addr}{xs ys:List V}
theorem SqL.of {K:PySem.W.Frag}(h:H a=some (.lst xs)):SqL K H a xs:=.inl (.inl h)
theorem SqT.of {K:PySem.W.Frag}(h:H a=some (.tup xs)):SqT K H a xs:=.inl (.inl h)
theorem Inv.list (I:Inv X pins σ H s)(h:SqL X.K H a xs):∃ its:List Value,Vals xs its/\PlainL s.heap a its.toArray/\xs.length<=sizeLine:=by
 rcases h with h|⟨o,its,n,j,q,hd,i,G,r⟩
 .obtain⟨z,its,n,r,e⟩:=h.ok I.hok
  exact⟨its,r,⟨_,n,e,rfl,rfl,rfl⟩,z⟩
 .refine⟨its.toList,r,⟨o,n,I.kIn a o j,q,hd,by simpa using i⟩,?_⟩
  have e:=r.length
  simp only[Array.length_toList]at e
  omega
theorem Inv.tuple (I:Inv X pins σ H s)(h:SqT X.K H a xs):∃ its:List Value,Vals xs its/\IsTup s.heap a its.toArray/\xs.length<=sizeLine:=by
 rcases h with h|⟨o,its,n,j,q,i,G,r⟩
 .obtain⟨z,its,r,p⟩:=h.ok I.hok
  exact⟨its,r,p,z⟩
 .refine⟨its.toList,r,⟨o,I.kIn a o j,q,n,by simpa using i⟩,?_⟩
  have e:=r.length
  simp only[Array.length_toList]at e
  omega
theorem Inv.list_inj (I:Inv X pins σ H s)(h:SqL X.K H a xs)(h':SqL X.K H a ys):xs=ys:=by
 obtain⟨its,r,⟨o,n,e,_,_,d⟩,_⟩:=I.list h
 obtain⟨its',j,⟨o',z,i,_,_,d'⟩,_⟩:=I.list h'
 rw[e]at i;cases i
 rw[d]at d'
 injection d' with q _
 have:its=its':=by simpa using congrArg Array.toList q
 subst this
 exact r.inj j
theorem Inv.tuple_inj (I:Inv X pins σ H s)(h:SqT X.K H a xs)(h':SqT X.K H a ys):xs=ys:=by
 obtain⟨its,r,⟨o,e,_,n,d⟩,_⟩:=I.tuple h
 obtain⟨its',j,⟨o',i,_,z,d'⟩,_⟩:=I.tuple h'
 rw[e]at i;cases i
 rw[d]at d'
 injection d' with q _
 have:its=its':=by simpa using congrArg Array.toList q
 subst this
 exact r.inj j
end
noncomputable abbrev Cx.wish (X:Cx)(E:Value->Shared->Prop):Cx:={ X with xe:=E }
noncomputable abbrev Cx.nox (X:Cx):Cx:=X.wish fun _ _=>False
theorem Cx.Ok.wish {X:Cx}(ok:X.Ok)(E:Value->Shared->Prop):(X.wish E).Ok:=
 ⟨ok.mod,ok.kind,ok.glob,ok.blt,ok.above,ok.inj,ok.has,ok.cab,ok.hd,ok.frames,ok.stk,ok.exf,ok.bs,ok.bsz,ok.noex,ok.exfs,ok.funs,ok.frf⟩
theorem Cx.Ok.unwish {X:Cx}{E:Value->Shared->Prop}(ok:(X.wish E).Ok):X.Ok:=
 ⟨ok.mod,ok.kind,ok.glob,ok.blt,ok.above,ok.inj,ok.has,ok.cab,ok.hd,ok.frames,ok.stk,ok.exf,ok.bs,ok.bsz,ok.noex,ok.exfs,ok.funs,ok.frf⟩
section
variable {X:Cx}{pins:List (Addr×Obj)}{σ:St}{H:Hp}{s:Shared}{E:Value->Shared->Prop}
theorem Inv.wish (I:Inv X pins σ H s)(E:Value->Shared->Prop):Inv (X.wish E) pins σ H s:=⟨I.ok.wish E,I.os,I.bare,I.base,I.loc,I.cell,I.free,I.freeC,I.pin,I.hok,I.len⟩
theorem Inv.unwish (I:Inv (X.wish E) pins σ H s):Inv X pins σ H s:=⟨I.ok.unwish,I.os,I.bare,I.base,I.loc,I.cell,I.free,I.freeC,I.pin,I.hok,I.len⟩
theorem SP.unwish {D:Ends}{f:Flow}{s':Shared}(h:SP (X.wish E) pins D f s'):SP X pins D f s':=by
 cases f with
 |next=>obtain⟨i,H',I,q⟩:=h;exact⟨i,H',I.unwish,q⟩
 |brk=>obtain⟨i,H',I,q⟩:=h;exact⟨i,H',I.unwish,q⟩
 |cont=>obtain⟨i,H',I,q⟩:=h;exact⟨i,H',I.unwish,q⟩
 |ret u=>obtain⟨v,i,H',I,r,q⟩:=h;exact⟨v,i,H',I.unwish,r,q⟩
theorem PE.nox {e:Expr}{t:TE}(h:PE X.nox e t):PE X e t:=fun pins s σ H Q I hw=>
 wpAny_mono (h pins s σ H Q (I.wish _) hw) (fun _ _ ⟨v,H',i,r,q⟩=>⟨v,H',i.unwish,r,q⟩) fun _ _ z=>False.elim z
theorem PT.nox {e:Expr}{t:TT}(h:PT X.nox e t):PT X e t:=fun pins s σ H Q I hw=>
 wpAny_mono (h pins s σ H Q (I.wish _) hw) (fun _ _ ⟨H',i,q⟩=>⟨H',i.unwish,q⟩) fun _ _ z=>False.elim z
theorem PSs.nox {st:List Stmt}{t:TS}(h:PSs X.nox st t):PSs X st t:=fun pins s σ H D I hw=>
 wpAny_mono (h pins s σ H D (I.wish _) hw) (fun _ _ q=>q.unwish) fun _ _ z=>False.elim z
end
section
variable {X:Cx}{st:Stmt}{rest:List Stmt}{t u:TS}{e:Expr}{te:TE}{pos:Pos}
noncomputable def tNext:TS:=fun D σ H=>D.nx σ H
noncomputable def tSeq (t u:TS):TS:=fun D σ H=>t { D with nx:=u D } σ H
theorem pss_nil:PSs X [] tNext:=fun _ _ σ H _ I h=>wpAny_execs_nil ⟨σ,H,I,h⟩
theorem pss_cons (h1:PS X st t)(h2:PSs X rest u):PSs X (st::rest) (tSeq t u):=by
 intro pins s σ H D I h
 refine wpAny_execs_cons (thn (h1 pins s σ H { D with nx:=u D } I h) fun f s1 q=>?_)
 cases f with
 |next=>
  obtain⟨i,H',j,q⟩:=q
  exact h2 pins s1 i H' D j q
 |ret v=>exact q
 |brk=>exact q
 |cont=>exact q
theorem pss_one (h1:PS X st t):PSs X [st] t:=by
 intro pins s σ H D I h
 refine wpAny_execs_cons (thn (h1 pins s σ H D I h) fun f s1 q=>?_)
 cases f with
 |next=>exact wpAny_execs_nil q
 |ret v=>exact q
 |brk=>exact q
 |cont=>exact q
theorem Inv.quiet {pins:List (Addr×Obj)}{σ:St}{H:Hp}{s:Shared}(I:Inv X pins σ H s):interactive X.env=false:=by simp[interactive,I.ok.kind]
noncomputable def tDrop (te:TE):TS:=fun D σ H=>te σ H fun _ H1=>D.nx σ H1
theorem ps_expr (q:PE X e te)(j:swapsWith e none pos.line X.env=pure false:=by rfl):PS X (.Expr e pos) (tDrop te):=by
 intro pins s σ H D I h
 exact wpAny_Expr_any (thn (q pins s σ H _ I h) fun v s1 ⟨x,H1,z,r1,i⟩=>⟨σ,H1,z,i⟩) I.quiet j
noncomputable def tRet (te:TE):TS:=fun D σ H=>te σ H D.rt
theorem ps_ret (j:PE X e te):PS X (.Return (some e) pos) (tRet te):=by
 intro pins s σ H D I h
 exact wpAny_Return_some (thn (j pins s σ H _ I h) fun v s1 ⟨x,H1,q,r1,i⟩=>⟨x,σ,H1,q,r1,i⟩)
noncomputable def tIfS (c:TT)(t u:TS):TS:=fun D σ H=>c σ H fun b H1=>if b=true then t D σ H1 else u D σ H1
theorem ps_if {c:Expr}{a b:List Stmt}{tc:TT}(z:PT X c tc)(ha:PSs X a t)(G:PSs X b u):PS X (.If c a b pos) (tIfS tc t u):=by
 intro pins s σ H D I h
 refine wpAny_If (thn (z pins s σ H _ I h) fun d s1 i=>?_)
 obtain⟨H1,q,j⟩:=i
 cases d with
 |true=>exact ha pins s1 σ H1 D q j
 |false=>exact G pins s1 σ H1 D q j
noncomputable def tNever:TS:=fun _ _ _=>False
theorem ps_never:PS X st tNever:=fun _ _ _ _ _ _ h=>h.elim
end
noncomputable abbrev TG:=V->St->Hp->(St->Hp->Prop)->Prop
noncomputable abbrev TGs:=List V->St->Hp->(St->Hp->Prop)->Prop
noncomputable def PG (X:Cx)(target:Expr)(t:TG):Prop:=
 ∀(pins:List (Addr×Obj))(s:Shared)(σ:St)(H:Hp)(v:V)(u:Value)(Q:St->Hp->Prop),Inv X pins σ H s->RelV v u->t v σ H Q->
  wpAny (model X.prog X.w) X.A (assign target X.env u) (fun _ s'=>∃ σ' H',Inv X pins σ' H' s'/\Q σ' H') X.xe s
noncomputable def PGs (X:Cx)(ts:List Expr)(t:TGs):Prop:=
 ∀(pins:List (Addr×Obj))(s:Shared)(σ:St)(H:Hp)(vs:List V)(us:List Value)(Q:St->Hp->Prop),Inv X pins σ H s->Vals vs us->t vs σ H Q->
  wpAny (model X.prog X.w) X.A (assignInOrder ((assignEach ts X.env).map (·.2)) us) (fun _ s'=>∃ σ' H',Inv X pins σ' H' s'/\Q σ' H') X.xe s
noncomputable abbrev TSet:=V->V->V->Hp->(Hp->Prop)->Prop
noncomputable def PSet (X:Cx)(t:TSet):Prop:=
 ∀(pins:List (Addr×Obj))(s:Shared)(σ:St)(H:Hp)(o i v:V)(ov iv u:Value)(Q:Hp->Prop),Inv X pins σ H s->RelV o ov->RelV i iv->RelV v u->t o i v H Q->
  wpAny (model X.prog X.w) X.A (setItem ov iv u) (fun _ s'=>∃ H',Inv X pins σ H' s'/\Q H') X.xe s
noncomputable abbrev TIp:=V->V->Hp->VK->Prop
noncomputable def PIp (X:Cx)(op:Operator)(t:TIp):Prop:=
 ∀(pins:List (Addr×Obj))(s:Shared)(σ:St)(H:Hp)(x y:V)(v u:Value)(Q:VK),Inv X pins σ H s->RelV x v->RelV y u->t x y H Q->
  wpAny (model X.prog X.w) X.A (inplaceOp op v u) (EP X pins σ Q) X.xe s
section
variable {X:Cx}{pos:Pos}
noncomputable def V7 (i:Nat):TG:=fun v σ H Q=>Q (σ.set i (some v)) H
theorem w6 {i:Nat}{x:Str}(z:X.N.Nodup)(hi:X.N[i]? =some x)(j:Loc X.env.scope x)(q:X.fn x=true\/X.env.scope.names.lookup x=some .local:=by first|exact .inl rfl|exact .inr rfl|assumption):PG X (.Name x pos) (V7 i):=by
 intro pins s σ H v u Q I r h
 exact wpAny_assign_Name (store_ok I z hi j r (fun s' G=>⟨_,H,G,h⟩) q)
noncomputable def gNil:TGs:=fun vs σ H Q=>vs=[]/\Q σ H
noncomputable def gCons (t:TG)(u:TGs):TGs:=fun vs σ H Q=>∃ v r,vs=v::r/\t v σ H fun σ' H'=>u r σ' H' Q
theorem c9:PGs X [] gNil:=by
 intro pins s σ H vs us Q I r h
 obtain⟨e,h⟩:=h
 subst e
 cases r
 exact assignInOrder_nil ⟨σ,H,I,h⟩
theorem t6 {e:Expr}{es:List Expr}{t:TG}{u:TGs}(h1:PG X e t)(h2:PGs X es u)
  (z:(assignEach (e::es) X.env).map (·.2)=assign e X.env::(assignEach es X.env).map (·.2):=by rfl):PGs X (e::es) (gCons t u):=by
 intro pins s σ H vs us Q I r h
 obtain⟨v,J,e1,h⟩:=h
 subst e1
 cases r with
 |cons r rr=>
  rw[z]
  refine assignInOrder_cons (thn (h1 pins s σ H _ _ _ I r h) fun _ s1 i=>?_)
  obtain⟨j,H1,G,q⟩:=i
  exact h2 pins s1 j H1 _ _ Q G rr q
noncomputable def gTup (K:PySem.W.Frag)(n:Nat)(t:TGs):TG:=fun v σ H Q=>∃ a xs,v= .ref a/\SqT K H a xs/\xs.length=n/\t xs σ H Q
theorem V1 {es:List Expr}{k:Nat}{t:TGs}{n:Nat}(L:X.calm=true)(h:PGs X es t)
  (hn:(assignEach es X.env).length=n:=by rfl) (i:(assignEach es X.env).findIdx? (·.1)=none:=by rfl):PG X (.Tuple es k pos) (gTup X.K n t):=by
 intro pins s σ H v u Q I r hw
 obtain⟨a,xs,e1,G,J,hw⟩:=hw
 subst e1
 cases r
 obtain⟨its,j,z,N⟩:=I.tuple G
 refine assign_Tuple_tuple (I.ok.hd L) z (by simp[hn,<-J,j.length]) i fun h' q=>?_
 have M:Inv X pins σ H { s with heap:=h' }:=I.kept (t':=s.toks) fun b o e=>q b o (Nat.ne_of_lt (Heap.lt_size e)) e
 exact h pins _ σ H xs _ Q M (by simpa using j) hw
noncomputable def gSub (to ti:TE)(t:TSet):TG:=fun v σ H Q=>to σ H fun o H1=>ti σ H1 fun i H2=>t o i v H2 fun H3=>Q σ H3
theorem R6 {o i:Expr}{to G:TE}{t:TSet}(O:PE X o to)(hi:PE X i G)(N:PSet X t)
  (ha:∀ v,assign (.Subscript o i pos) X.env v=(do
   let q ← holding [v] (eval o X.env)
   let z ← holding [v,q] (eval i X.env)
   standAt pos
   holding [v,q,z] (setItem q z v)
   release [v,q,z] []):=by intro _;rfl):PG X (.Subscript o i pos) (gSub to G t):=by
 intro pins s σ H v u Q I r h
 rw[ha]
 refine wpAny_bind (wpAny_holding (thn (O pins s σ H _ I h) fun q s1 j=>?_))
 obtain⟨x,H1,U,r1,M⟩:=j
 refine wpAny_bind (wpAny_holding (thn (hi pins s1 σ H1 _ U M) fun z s2 j=>?_))
 obtain⟨y,H2,S,r2,L⟩:=j
 refine wpAny_bind (wpAny_standAt (wpAny_bind (wpAny_holding (thn (N pins s2 σ H2 x y v q z u _ S r1 r2 r L) fun _ Z j=>?_))))
 obtain⟨Y,R,J⟩:=j
 exact wpAny_release ⟨σ,Y,R,J⟩
noncomputable def tAsg (te:TE)(g:TG):TS:=fun D σ H=>te σ H fun x H1=>g x σ H1 D.nx
theorem Z9 {tg e:Expr}{te:TE}{g:TG}(J:PE X e te)(G:PG X tg g)(z:swapsWithSole [tg] e pos.line X.env=pure false:=by rfl)(hw:swappedStores [tg] e X.env=pure none:=by rfl)
  (h1:(assignEach [tg] X.env).map (·.2)=[assign tg X.env]:=by rfl):PS X (.Assign [tg] e pos) (tAsg te g):=by
 intro pins s σ H D I h
 refine wpAny_Assign_stores (thn (J pins s σ H _ I h) fun v s1 i=>?_) z hw
 obtain⟨x,H1,L,r1,j⟩:=i
 rw[h1]
 exact thn (G pins s1 σ H1 x v _ L r1 j) fun _ s2 q=>q
theorem ps_set {i:Nat}{x:Str}{e:Expr}{te:TE}{pos':Pos}(M:X.N.Nodup)(hi:X.N[i]? =some x)(z:Loc X.env.scope x)(L:PE X e te)(G:swapsWith e (some (.Name x pos')) pos.line X.env=pure false:=by rfl)(J:X.fn x=true\/X.env.scope.names.lookup x=some .local:=by first|exact .inl rfl|exact .inr rfl|assumption):
  PS X (.Assign [.Name x pos'] e pos) (tAsg te (V7 i)):=by
 intro pins s σ H D I h
 refine wpAny_Assign_Name (thn (L pins s σ H _ I h) fun v s1 j=>?_) G
 obtain⟨y,H1,R,r1,q⟩:=j
 exact store_ok R M hi z r1 (fun s2 O=>⟨_,H1,O,q⟩) J
noncomputable def tAug (i:Nat)(te:TE)(ti:TIp):TS:=fun D σ H=>∃ x,σ[i]? =some (some x)/\te σ H fun y H1=>ti x y H1 fun z H2=>D.nx (σ.set i (some z)) H2
theorem ps_aug {i:Nat}{x:Str}{e:Expr}{te:TE}{op:Operator}{R:TIp}{pos':Pos}(hN:X.N.Nodup)(hi:X.N[i]? =some x)(O:Loc X.env.scope x)(he:PE X e te)(Y:PIp X op R)(hf:X.fn x=true\/X.env.scope.names.lookup x=some .local:=by first|exact .inl rfl|exact .inr rfl|assumption):
  PS X (.AugAssign (.Name x pos') op e pos) (tAug i te R):=by
 intro pins s σ H D I h
 obtain⟨v,e1,h⟩:=h
 obtain⟨m,hn,Z⟩:=I.loc
 have M:Vis X.env.scope x:=by rcases O with k|k;exact .inl k;exact .inr (.inl k)
 obtain⟨u,r,l⟩:=Z i x v hi e1 M
 refine wpAny_AugAssign_Name ?_
 have go:wpAny (model X.prog X.w) X.A (eval e X.env) (fun w L=>wpAny (model X.prog X.w) X.A (inplaceOp op u w) (fun r J=>wpAny (model X.prog X.w) X.A (storeName X.env x r) (fun _=>SP X pins D .next) X.xe J) X.xe L) X.xe s:=by
  refine thn (he pins s σ H _ I h) fun w s1 j=>?_
  obtain⟨y,H1,I1,r1,U⟩:=j
  refine thn (Y pins s1 σ H1 v y u w _ I1 r r1 U) fun z s2 j=>?_
  obtain⟨zv,H2,I2,r2,S⟩:=j
  exact store_ok I2 hN hi O r2 (fun s3 I3=>⟨_,H2,I3,S⟩) hf
 rcases l with⟨q,hm⟩|⟨q,c,hc,G⟩
 .exact wpAny_loadName_local I.ok.kind q hn hm go
 .rcases q with q|q
  .exact wpAny_loadName_cell I.ok.kind q hc G go
  .rcases O with k|k
   .have:X.env.scope.names.lookup x=some .free:=q
    rw[k]at this;cases this
   .have:X.env.scope.names.lookup x=some .free:=q
    rw[k]at this;cases this
noncomputable def ipI (f:Int->Int->Int):TIp:=fun x y H Q=>∃ i j,x= .int i/\y= .int j/\Q (.int (f i j)) H
theorem ip_add:PIp X .Add (ipI fun i j=>i+j):=by
 intro pins s σ H x y v u Q I r1 r2 h
 obtain⟨i,j,e1,e2,q⟩:=h
 subst e1;subst e2
 obtain⟨t,rfl⟩:=r1
 obtain⟨t',rfl⟩:=r2
 exact iadd_int ⟨.int _,H,I.tok _,⟨_,rfl⟩,q⟩
end
section
variable {X:Cx}{pos:Pos}
noncomputable def tWhile (c:TT)(tb:TS):TS:=fun D σ H=>∃ W:Nat->St->Hp->Prop,(∃ m,W m σ H)/\∀ m σ H,W m σ H->
 c σ H fun b H1=>if b=true then ∃ N:St->Hp->Prop,(∀ σ' H',N σ' H'->∃ m',m'<m/\W m' σ' H')/\tb { D with nx:=N,ct:=N,bk:=D.nx } σ H1 else D.nx σ H1
theorem ps_while {c:Expr}{body:List Stmt}{tc:TT}{tb:TS}(hp:PassesOwn (model X.prog X.w) X.A X.env X.xe)(hc:PT X c tc)(hb:PSs X body tb):PS X (.While c body [] pos) (tWhile tc tb):=by
 intro pins s σ H D I h
 obtain⟨W,⟨m0,w0⟩,turn⟩:=h
 refine wpAny_While (codeAny_whileLoop (fun n s'=>∃ q H',Inv X pins q H' s'/\W n q H') ?_ m0 ⟨σ,H,I,w0⟩)
 rintro n s1 ⟨j,H1,I1,Z⟩
 refine wpAny_passesOwn hp (thn (hc pins s1 j H1 _ I1 (turn n j H1 Z)) fun b s2 z=>?_)
 obtain⟨H2,Y,L⟩:=z
 cases b with
 |true=>
  obtain⟨N,U,L⟩:=L
  rw[if_pos rfl]
  refine wpAny_passesOwn hp (thn (hb pins s2 j H2 _ Y L) fun f s3 J=>?_)
  cases f with
  |next=>
   obtain⟨i,G,S,O⟩:=J
   obtain⟨R,hm,M⟩:=U i G O
   exact⟨R,hm,i,G,S,M⟩
  |cont=>
   obtain⟨i,G,S,O⟩:=J
   obtain⟨R,hm,M⟩:=U i G O
   exact⟨R,hm,i,G,S,M⟩
  |brk=>exact J
  |ret v=>exact J
 |false=>
  rw[if_neg Bool.false_ne_true]
  exact wpAny_execs_nil ⟨j,H2,Y,L⟩
end
structure It where
 go:Nat->Hp->Prop
 yld:Nat->Hp->V->Hp->Prop
 stop:Nat->Hp->Prop
noncomputable def FpOk (X:Cx)(pins:List (Addr×Obj))(H:Hp)(b:Addr):Prop:=
 H b=none/\b≠X.env.locals/\b∉X.fs/\(b∈X.ex\/X.s₀.heap.objs.size<=b)/\(∀ x c,X.env.cells.lookup x=some c->c≠b)/\∀ p∈X.pn++pins,p.1≠b
theorem Inv.fpOk {X:Cx}{pins:List (Addr×Obj)}{σ:St}{H H':Hp}{s:Shared}{b:Addr}(I:Inv X pins σ H s)(i:s.heap.objs.size<=b)(hn:H' b=none):FpOk X pins H' b:=by
 refine⟨hn,Nat.ne_of_gt (Nat.lt_of_lt_of_le I.lt i),I.nofs i,.inr (Nat.le_trans I.sz i),fun x c e z=>?_,fun p hp z=>?_⟩
 .obtain⟨v,q⟩:=I.cell x c e
  exact absurd (Nat.lt_of_lt_of_le q.lt (by rw[z];exact i)) (Nat.lt_irrefl _)
 .exact absurd (Nat.lt_of_lt_of_le (Heap.lt_size (I.pin p hp).1) (by rw[z];exact i)) (Nat.lt_irrefl _)
structure Turn (P:Program)(w:World)(K:PySem.W.Frag)(tg:Expr)(J:It)(fp:List Addr)(it:Addr)(tn:Nat->Heap->Prop):Prop where
 mem:it∈fp
 obj:∀ i h,tn i h->∀ b∈fp,∃ o,h.get? b=some o/\∀ v,o.data≠ .cell v
 keep:∀ i h h',tn i h->(∀ b∈fp,∀ o,h.get? b=some o->h'.get? b=some o)->tn i h'
 item:∀(X:Cx),X.prog=P->X.w=w->X.K=K->X.calm=true->∀(i:Nat)(pins:List (Addr×Obj))(s:Shared)(σ:St)(H:Hp)(E:Value->Shared->Prop),Inv X pins σ H s->(∀ b∈fp,FpOk X pins H b)->tn i s.heap->J.go i H->
  wpAny (model P w) X.A (pyNext (.ref it)) (fun r s1=>∃ u,r=some u/\
   wpAny (model P w) X.A (letOwnedTupleGo tg (.ref it) u) (fun _ s2=>∃ x H',Inv X pins σ H' s2/\RelV x u/\J.yld i H x H'/\tn (i+1) s2.heap/\∀ b∈fp,H' b=none) E s1) E s
 done:∀(X:Cx),X.prog=P->X.w=w->X.K=K->X.calm=true->∀(i:Nat)(pins:List (Addr×Obj))(s:Shared)(σ:St)(H:Hp)(E:Value->Shared->Prop),Inv X pins σ H s->(∀ b∈fp,FpOk X pins H b)->tn i s.heap->J.stop i H->
  wpAny (model P w) X.A (pyNext (.ref it)) (fun r s1=>r=none/\Inv X pins σ H s1) E s
 self:∀(A:Around)(i:Nat)(s:Shared)(Q:Value->Shared->Prop)(E:Value->Shared->Prop),tn i s.heap->Q (.ref it) s->wpAny (model P w) A (pyIter (.ref it)) Q E s
noncomputable abbrev TI:=St->Hp->(It->Hp->Prop)->Prop
noncomputable def PIE (X:Cx)(pins:List (Addr×Obj))(σ:St)(tg:Expr)(R:It->Hp->Prop)(itv:Value)(s2:Shared):Prop:=
 ∃(it:Addr)(fp:List Addr)(tn:Nat->Heap->Prop)(J:It)(H':Hp),itv= .ref it/\Inv X pins σ H' s2/\Turn X.prog X.w X.K tg J fp it tn/\tn 0 s2.heap/\(∀ b∈fp,FpOk X pins H' b)/\R J H'
noncomputable def PI (X:Cx)(tg iter:Expr)(wi:TI):Prop:=
 ∀(pins:List (Addr×Obj))(s:Shared)(σ:St)(H:Hp)(R:It->Hp->Prop),Inv X pins σ H s->wi σ H R->
  wpAny (model X.prog X.w) X.A (eval iter X.env) (fun v s1=>wpAny (model X.prog X.w) X.A (pyIter v) (PIE X pins σ tg R) X.xe s1) X.xe s
theorem go_of {M:Model}{A:Around}{E:Value->Shared->Prop}{s:Shared}{tg:Expr}{it:Addr}{u:Value}{o:Obj}{n:String}{vs:Array Value}{Q:Unit->Shared->Prop}(j:s.heap.get? it=some o)(q:o.cls= .type n)(hd:o.data= .fields vs)
  (hn:["enumerate","zip","dict_itemiterator","dict_reverseitemiterator","odict_iterator","itertools.zip_longest","itertools.pairwise"].contains n=false) (i:Q () s):wpAny M A (letOwnedTupleGo tg (.ref it) u) Q E s:=by
 unfold letOwnedTupleGo
 cases tg <;> first
  |exact wpAny_pure i
  | (cases u <;> first
    |exact wpAny_pure i
    | (refine wpAny_bind (wpAny_load j ?_)
       rw[q,hd]
       show wpAny M A (if (["enumerate","zip","dict_itemiterator","dict_reverseitemiterator","odict_iterator","itertools.zip_longest","itertools.pairwise"].contains n&&vs[0]? ==some (rawInt _))=true then _ else _) Q E s
       rw[if_neg (by intro h;rw[hn,Bool.false_and]at h;cases h)]
       exact wpAny_pure i))
noncomputable def Itl (K:PySem.W.Frag)(a:Addr):It:=
 ⟨fun i H=>∃ xs x,SqL K H a xs/\xs[i]? =some x,fun i H x H'=>H'=H/\∀ xs,SqL K H a xs->xs[i]? =some x,fun i H=>∃ xs,SqL K H a xs/\xs.length<=i⟩
noncomputable def Itr (lo:Int)(n:Nat):It:=⟨fun i _=>i<n,fun i H x H'=>H'=H/\x= .int (lo+i),fun i _=>n<=i⟩
theorem turn_list {P:Program}{w:World}{K:PySem.W.Frag}{tg:Expr}(a it:Addr):Turn P w K tg (Itl K a) [it] it (fun i h=>h.IsListIter it a i) where
 mem:=by simp
 obj:=fun i h st b j=>by
  have e:b=it:=by simpa using j
  subst e
  obtain⟨o,e,c,d⟩:=st
  exact⟨o,e,fun v z=>by rw[d]at z;cases z⟩
 keep:=fun i h h' st k=>st.at fun o e=>k it (by simp) o e
 item:=by
  intro X O hw R hc i pins s σ H E I J st N
  subst O hw R
  obtain⟨xs,x,G,M⟩:=N
  obtain⟨its,L,p,hz⟩:=I.list G
  obtain⟨u,hu,ru⟩:=L.get M
  obtain⟨f0,Z,f2,Y,U,S⟩:=J it (by simp)
  refine wpAny_pyNext_list_item st p.isList (x:=u) (by simpa using hu) fun h' q sb=>?_
  have I1:Inv X pins σ H { s with heap:=h' }:=I.turned (t':=s.toks) (fun b o j e=>(sb.2 b j).trans e) f0 Z Y U S
  obtain⟨o,e,c,d⟩:=id q
  exact⟨u,rfl,go_of (s:={ s with heap:=h' }) e c d (by decide) ⟨x,H,I1,ru,⟨rfl,fun ys hy=>by rw[I.list_inj hy G];exact M⟩,q,fun b j=>(J b j).1⟩⟩
 done:=by
  intro X O hw R hc i pins s σ H E I J st N
  subst O hw R
  obtain⟨xs,G,M⟩:=N
  obtain⟨its,L,p,hz⟩:=I.list G
  obtain⟨f0,Z,f2,Y,U,S⟩:=J it (by simp)
  have hl:=L.length
  exact wpAny_pyNext_list_end (I.ok.hd hc) st p.isList (by simp;omega) fun h' eb=>⟨rfl,I.turned (t':=s.toks) (fun b o j e=>eb b o j e) f0 Z Y U S⟩
 self:=fun _ _ _ _ _ st h=>wpAny_pyIter_listiter st h
theorem turn_range {P:Program}{w:World}{K:PySem.W.Frag}{tg:Expr}(it:Addr)(lo:Int)(n:Nat):Turn P w K tg (Itr lo n) [it] it (fun i h=>IsRangeIter h it (lo+(i:Nat)*1) ((n:Int)-(i:Nat)) 1) where
 mem:=by simp
 obj:=fun i h st b j=>by
  have e:b=it:=by simpa using j
  subst e
  exact⟨_,st,fun v z=>by
   have Z:Data.fields _=Data.cell v:=z
   cases Z⟩
 keep:=fun i h h' st k=>k it (by simp) _ st
 item:=by
  intro X M hw N L i pins s σ H E I G st J
  subst M hw N
  obtain⟨Y,U,f2,S,R,O⟩:=G it (by simp)
  have W:=Walks.range (prog:=X.prog) (w:=X.w) (I.ok.hd L) it lo 1 n
  refine W.item i s _ _ J st fun v h' tk hv q kk=>?_
  obtain⟨t,rfl⟩:=hv
  have I1:Inv X pins σ H { s with heap:=h',toks:=tk }:=I.turned (fun b o j e=>kk b o (by simpa using j) e) Y U S R O
  refine⟨_,rfl,go_of (s:={ s with heap:=h',toks:=tk }) (n:="range_iterator") q rfl rfl (by decide) ⟨.int (lo+i),H,I1,⟨t,?_⟩,⟨rfl,rfl⟩,q,fun b j=>(G b j).1⟩⟩
  rw[Int.mul_one]
 done:=by
  intro X M hw N L i pins s σ H E I G st J
  subst M hw N
  obtain⟨Y,U,f2,S,R,O⟩:=G it (by simp)
  exact wpAny_pyNext_range_end (I.ok.hd L) st (by have:n<=i:=J;omega) fun h' eb=>⟨rfl,I.turned (t':=s.toks) (fun b o j e=>eb b o j e) Y U S R O⟩
 self:=fun _ _ _ _ _ st h=>wpAny_pyIter_rangeiter st h
end L2
namespace L2
open PySem PySem.Spec PyProof.Rows
section
variable {X:Cx}{tg:Expr}
noncomputable def iList (K:PySem.W.Frag)(tl:TE):TI:=fun σ H R=>tl σ H fun x H1=>∃ a,x= .ref a/\(∃ xs,SqL K H1 a xs)/\R (Itl K a) H1
theorem pi_list {l:Expr}{tl:TE}(J:PE X l tl):PI X tg l (iList X.K tl):=by
 intro pins s σ H R I h
 refine thn (J pins s σ H _ I h) fun v s1 i=>?_
 obtain⟨x,H1,j,r1,z⟩:=i
 obtain⟨a,e,⟨xs,G⟩,q⟩:=z
 subst e
 cases r1
 obtain⟨its,M,p,N⟩:=j.list G
 refine wpAny_pyIter_list p.isList ?_
 refine⟨s1.heap.objs.size,[s1.heap.objs.size],_,_,H1,rfl,j.kept (t':=s1.toks) fun b o e=>Heap.get?_push_of_some _ e,turn_list a _,⟨_,Heap.get?_push_size _ rfl,rfl,rfl⟩,fun b L=>?_,q⟩
 have e:b=s1.heap.objs.size:=by simpa using L
 subst e
 exact j.fpOk (Nat.le_refl _) (j.hok.fresh (Nat.le_refl _))
theorem range_it {pins:List (Addr×Obj)}{σ:St}{H:Hp}{s:Shared}{R:It->Hp->Prop}{E:Value->Shared->Prop}{lo hi:Int}{t u v:Tok}{tk:Nat}(I:Inv X pins σ H s)(h1:-(2^62)<=lo)(h2:lo<2^62)(G:-(2^62)<=hi)(z:hi<2^62)
  (q:R (Itr lo (hi-lo).toNat) H):wpAny (model X.prog X.w) X.A (pyIter (.ref s.heap.objs.size)) (PIE X pins σ tg R) E { s with heap:=s.heap.push { cls:=.type "range",data:=.fields #[.int lo t,.int hi u,.int 1 v] },toks:=tk }:=by
 refine wpAny_pyIter_range (IsRange.new ..) (small_one h1 h2 G z) ?_
 have i:Inv X pins σ H { s with heap:=s.heap.push { cls:=.type "range",data:=.fields #[.int lo t,.int hi u,.int 1 v] },toks:=tk }:=I.kept fun b o e=>Heap.get?_push_of_some _ e
 refine⟨(s.heap.push { cls:=.type "range",data:=.fields #[.int lo t,.int hi u,.int 1 v] }).objs.size,[(s.heap.push { cls:=.type "range",data:=.fields #[.int lo t,.int hi u,.int 1 v] }).objs.size],_,_,H,rfl,
  i.kept (t':=tk) fun b o e=>Heap.get?_push_of_some _ e,turn_range _ lo (hi-lo).toNat,?_,fun b j=>?_,q⟩
 .have e1:lo+((0:Nat):Int)*1=lo:=by simp
  have e2:(((hi-lo).toNat:Nat):Int)-((0:Nat):Int)=Builtin.Range.rangeSize lo hi 1:=by rw[rangeSize_one];split <;> omega
  show IsRangeIter _ _ (lo+((0:Nat):Int)*1) ((((hi-lo).toNat:Nat):Int)-((0:Nat):Int)) 1
  rw[e1,e2]
  exact Heap.get?_push_size _ rfl
 .have e:b=(s.heap.push { cls:=.type "range",data:=.fields #[.int lo t,.int hi u,.int 1 v] }).objs.size:=by simpa using j
  subst e
  exact i.fpOk (Nat.le_refl _) (i.hok.fresh (Nat.le_refl _))
noncomputable def iRng1 (ta:TA):TI:=fun σ H R=>ta σ H fun vs H1=>∃ j:Int,vs=[.int j]/\ -(2^62)<=j/\j<2^62/\R (Itr 0 j.toNat) H1
noncomputable def iRng2 (ta:TA):TI:=fun σ H R=>ta σ H fun vs H1=>∃ i j:Int,vs=[.int i,.int j]/\(-(2^62)<=i/\i<2^62/\ -(2^62)<=j/\j<2^62)/\R (Itr i (j-i).toNat) H1
theorem pi_range1 {a:Expr}{ta:TA}{p pos:Pos}(L:Gl X "range")(hm:X.mg "range"=none)(ha:PA X [a] ta)(J:starEach [a] X.env=[(false,eval a X.env)]:=by rfl):PI X tg (.Call (.Name "range" p) [a] [] pos) (iRng1 ta):=by
 intro pins s σ H R I h
 refine Call_ (X2 I L hm boot_range (PyProof.Rows.callWith_type1 (thn (ha pos pins s σ H _ I h) fun us s1 i=>?_) J rfl))
 obtain⟨vs,H1,M,r1,z⟩:=i
 obtain⟨j,e,z,G,q⟩:=z
 subst e
 cases r1 with
 |cons r rr=>
  cases rr
  obtain⟨t,rfl⟩:=r
  exact call_range_1 (range_it M (by omega) (by omega) z G (by simpa using q))
theorem pi_range2 {a b:Expr}{ta:TA}{p pos:Pos}(U:Gl X "range")(hm:X.mg "range"=none)(ha:PA X [a,b] ta)(S:starEach [a,b] X.env=[(false,eval a X.env),(false,eval b X.env)]:=by rfl)(z:starEach [b] X.env=[(false,eval b X.env)]:=by rfl):
  PI X tg (.Call (.Name "range" p) [a,b] [] pos) (iRng2 ta):=by
 intro pins s σ H R I h
 refine Call_ (X2 I U hm boot_range (PyProof.Rows.callWith_type1 (thn (ha pos pins s σ H _ I h) fun us s1 G=>?_) (by rw[S,z]) (by rw[z];rfl)))
 obtain⟨vs,H1,Y,r1,J⟩:=G
 obtain⟨i,j,e,⟨J,O,N,M⟩,q⟩:=J
 subst e
 cases r1 with
 |cons r rr=>
  cases rr with
  |cons L rr=>
   cases rr
   obtain⟨t,rfl⟩:=r
   obtain⟨t',rfl⟩:=L
   exact call_range_2 (range_it Y J O N M q)
noncomputable def tFor (wi:TI)(g:TG)(tb:TS):TS:=fun D σ H=>wi σ H fun J H1=>∃ W:Nat->Nat->St->Hp->Prop,(∃ m,W 0 m σ H1)/\∀ i m σ H,W i m σ H->
 (J.stop i H/\D.nx σ H)\/(J.go i H/\∃ N:St->Hp->Prop,(∀ σ' H',N σ' H'->∃ m',m'<m/\W (i+1) m' σ' H')/\∀ x H',J.yld i H x H'->g x σ H' fun σ2 H2=>tb { D with nx:=N,ct:=N,bk:=D.nx } σ2 H2)
noncomputable def pinsAt (fp:List Addr)(h:Heap):List (Addr×Obj):=fp.filterMap fun b=>(h.get? b).map fun o=>(b,o)
theorem U6 {fp:List Addr}{h:Heap}{b:Addr}{o:Obj}(i:b∈fp)(e:h.get? b=some o):(b,o)∈pinsAt fp h:=List.mem_filterMap.mpr ⟨b,i,by rw[e];rfl⟩
theorem of_pinsAt {fp:List Addr}{h:Heap}{p:Addr×Obj}(hp:p∈pinsAt fp h):p.1∈fp/\h.get? p.1=some p.2:=by
 obtain⟨b,i,e⟩:=List.mem_filterMap.mp hp
 cases q:h.get? b with
 |none=>rw[q]at e;cases e
 |some o=>
  rw[q]at e
  have j:(b,o)=p:=Option.some.inj e
  subst j
  exact⟨i,q⟩
theorem Inv.pinned {pins:List (Addr×Obj)}{σ:St}{H:Hp}{s:Shared}{fp:List Addr}(I:Inv X pins σ H s)(G:∀ b∈fp,FpOk X pins H b)(q:∀ b∈fp,∃ o,s.heap.get? b=some o/\∀ v,o.data≠ .cell v):Inv X (pins++pinsAt fp s.heap) σ H s:=
 I.pins_of fun p hp=>(List.mem_append.mp hp).elim (fun z=>I.pin p (List.mem_append_right _ z)) fun z=>by
  obtain⟨i,e⟩:=of_pinsAt z
  obtain⟨M,L,J,_⟩:=G p.1 i
  obtain⟨o,j,d⟩:=q p.1 i
  rw[e]at j;cases j
  exact⟨e,M,L,J,d⟩
theorem Inv.unpinned {pins i:List (Addr×Obj)}{σ:St}{H:Hp}{s:Shared}(I:Inv X (pins++i) σ H s):Inv X pins σ H s:=I.pins_of fun p hp=>I.pin p (List.mem_append_right _ (List.mem_append_left _ hp))
theorem ps_for {iter:Expr}{body:List Stmt}{wi:TI}{g:TG}{tb:TS}{pos:Pos}(hp:PassesOwn (model X.prog X.w) X.A X.env X.xe)(hc:X.calm=true)(hi:PI X tg iter wi)(hg:PG X tg g)(M:PSs X body tb)
  (hs:∀ x,foldedSetIterable iter X.env x=pure x:=by intro _;rfl):PS X (.For tg iter body [] pos) (tFor wi g tb):=by
 intro pins s σ H D I h
 refine wpAny_For (thn (hi pins s σ H _ I h) fun v s1 h1=>thn h1 fun a5 s2 h2=>?_) hs
 obtain⟨it,fp,tn,J,H2,e,I2,T,a2,f2,W,⟨m0,w0⟩,turn⟩:=h2
 subst e
 have G:∀{H':Hp},(∀ b∈fp,H' b=none)->∀ b∈fp,FpOk X pins H' b:=fun hn b M=>⟨hn b M,(f2 b M).2⟩
 refine codeAny_forLoop_any (fun n s'=>∃ i z H',Inv X pins z H' s'/\tn i s'.heap/\(∀ b∈fp,H' b=none)/\W i n z H') ?_ m0 ⟨0,σ,H2,I2,a2,fun b M=>(f2 b M).1,w0⟩
 rintro n s3 ⟨i,q,H3,I3,Y,a0,w3⟩
 rcases turn i n q H3 w3 with⟨stop,qn⟩|⟨go,N,hN,step⟩
 .refine wpAny_passesOwn hp (thn (T.done X rfl rfl rfl hc i pins s3 q H3 X.xe I3 (G a0) Y stop) fun r s4 ⟨hr,I4⟩=>?_)
  subst hr
  exact wpAny_execs_nil ⟨q,H3,I4,qn⟩
 .refine wpAny_passesOwn hp (thn (T.item X rfl rfl rfl hc i pins s3 q H3 X.xe I3 (G a0) Y go) fun r s4 ⟨u,hr,h4⟩=>?_)
  subst hr
  refine wpAny_passesOwn hp (thn h4 fun _ s5 L=>?_)
  obtain⟨x,H5,I5,r5,y5,U,a3⟩:=L
  have a4:=I5.pinned (G a3) (T.obj _ _ U)
  refine wpAny_passesOwn hp (thn (hg _ s5 q H5 x u _ a4 r5 (step x H5 y5)) fun _ s6 L=>?_)
  obtain⟨a1,H6,I6,q6⟩:=L
  refine wpAny_passesOwn hp (thn (M _ s6 a1 H6 _ I6 q6) fun f s7 S=>?_)
  have again:∀{j:St}{R:Hp},Inv X (pins++pinsAt fp s5.heap) j R s7->N j R->∃ m,m<n/\∃ i z H',Inv X pins z H' s7/\tn i s7.heap/\(∀ b∈fp,H' b=none)/\W i m z H':=fun{j R} O Z=>by
   obtain⟨m',hm,w7⟩:=hN j R Z
   refine⟨m',hm,i+1,j,R,O.unpinned,T.keep _ _ _ U fun b M o e=>(O.pin (b,o) (List.mem_append_right _ (List.mem_append_right _ (U6 M e)))).1,fun b M=>?_,w7⟩
   obtain⟨o,e,d⟩:=T.obj _ _ U b M
   exact(O.pin (b,o) (List.mem_append_right _ (List.mem_append_right _ (U6 M e)))).2.1
  cases f with
  |next=>obtain⟨j,R,O,Z⟩:=S;exact again O Z
  |cont=>obtain⟨j,R,O,Z⟩:=S;exact again O Z
  |brk=>obtain⟨j,R,O,S⟩:=S;exact⟨j,R,O.unpinned,S⟩
  |ret v=>obtain⟨x7,j,R,O,r7,S⟩:=S;exact⟨x7,j,R,O.unpinned,r7,S⟩
end
end L2
namespace L2
open PySem PySem.Spec PyProof.Rows
noncomputable abbrev R2:=V->V->Hp->VK->Prop
noncomputable def OpR (X:Cx)(f:Value->Value->Sem Value)(r:R2):Prop:=
 ∀(pins:List (Addr×Obj))(s:Shared)(σ:St)(H:Hp)(x y:V)(v u:Value)(Q:VK),Inv X pins σ H s->RelV x v->RelV y u->r x y H Q->
  wpAny (model X.prog X.w) X.A (f v u) (EP X pins σ Q) X.xe s
noncomputable def UnR (X:Cx)(f:Value->Sem Value)(r:V->Hp->VK->Prop):Prop:=
 ∀(pins:List (Addr×Obj))(s:Shared)(σ:St)(H:Hp)(x:V)(v:Value)(Q:VK),Inv X pins σ H s->RelV x v->r x H Q->
  wpAny (model X.prog X.w) X.A (f v) (EP X pins σ Q) X.xe s
noncomputable def CallR (X:Cx)(f:Value)(r:List V->Hp->VK->Prop):Prop:=
 ∀(pins:List (Addr×Obj))(s:Shared)(σ:St)(H:Hp)(xs:List V)(us:List Value)(Q:VK),Inv X pins σ H s->Vals xs us->r xs H Q->
  wpAny (model X.prog X.w) X.A (call f us) (EP X pins σ Q) X.xe s
noncomputable def TruR (X:Cx)(r:V->Hp->(Bool->Hp->Prop)->Prop):Prop:=
 ∀(pins:List (Addr×Obj))(s:Shared)(σ:St)(H:Hp)(x:V)(v:Value)(Q:Bool->Hp->Prop),Inv X pins σ H s->RelV x v->r x H Q->
  wpAny (model X.prog X.w) X.A (truthy v) (TP X pins σ Q) X.xe s
noncomputable def tOp (r:R2)(ta tb:TE):TE:=fun σ H Q=>ta σ H fun x H1=>tb σ H1 fun y H2=>r x y H2 Q
noncomputable def tUn (r:V->Hp->VK->Prop)(ta:TE):TE:=fun σ H Q=>ta σ H fun x H1=>r x H1 Q
noncomputable def rI (C:Int->Int->Prop)(g:Int->Int->V):R2:=fun x y H Q=>∃ i j,x= .int i/\y= .int j/\C i j/\Q (g i j) H
noncomputable def rI0 (g:Int->Int->V):R2:=fun x y H Q=>∃ i j,x= .int i/\y= .int j/\Q (g i j) H
noncomputable def rU (g:Int->V):V->Hp->VK->Prop:=fun x H Q=>∃ i,x= .int i/\Q (g i) H
section
variable {X:Cx}{a b c:Expr}{ta tb tc:TE}{pos:Pos}
theorem binT (ha:PE X a ta)(L:PE X b tb){pins:List (Addr×Obj)}{s:Shared}{σ:St}{H:Hp}{R:V->V->Hp->Prop}(I:Inv X pins σ H s)
  (h:ta σ H fun x H1=>tb σ H1 fun y H2=>R x y H2) {Q:Value->Shared->Prop} {f:Value->Value->Sem Value}
  (J:∀ v u s2 x y H2,Inv X pins σ H2 s2->RelV x v->RelV y u->R x y H2->wpAny (model X.prog X.w) X.A (f v u) Q X.xe s2):
  wpAny (model X.prog X.w) X.A (eval a X.env) (fun v q=>wpAny (model X.prog X.w) X.A (eval b X.env) (fun u j=>wpAny (model X.prog X.w) X.A (f v u) Q X.xe j) X.xe q) X.xe s:=by
 refine thn (ha pins s σ H _ I h) fun v s1 i=>?_
 obtain⟨x,H1,N,r1,G⟩:=i
 refine thn (L pins s1 σ H1 _ N G) fun u s2 i=>?_
 obtain⟨y,H2,M,r2,z⟩:=i
 exact J v u s2 x y H2 M r1 r2 z
theorem pe_op {op:Operator}{r:R2}(j:OpR X (binaryOp op) r)(ha:PE X a ta)(z:PE X b tb):PE X (.BinOp a op b pos) (tOp r ta tb):=by
 intro pins s σ H Q I h
 exact wpAny_BinOp (binT ha z I h fun v u s2 x y H2 G rx i q=>j pins s2 σ H2 x y v u Q G rx i q)
theorem pe_un {op:UnaryOp}{r:V->Hp->VK->Prop}(j:UnR X (unaryOp op) r)(ha:PE X a ta):PE X (.UnaryOp op a pos) (tUn r ta):=by
 intro pins s σ H Q I h
 exact UnaryOp_ (thn (ha pins s σ H _ I h) fun v s1 ⟨x,H1,q,r1,i⟩=>j pins s1 σ H1 x v Q q r1 i)
theorem opI {f:Value->Value->Sem Value}{C:Int->Int->Prop}{g:Int->Int->Int}
  (rule:∀(i j:Int)(t u:Tok)(s:Shared)(Q:Value->Shared->Prop)(E:Value->Shared->Prop),C i j->Q (.int (g i j) s.toks) { s with toks:=s.toks+1 }->wpAny (model X.prog X.w) X.A (f (.int i t) (.int j u)) Q E s):
  OpR X f (rI C fun i j=>.int (g i j)):=by
 intro pins s σ H x y v u Q I rx z h
 obtain⟨i,j,rfl,rfl,G,q⟩:=h
 obtain⟨t,rfl⟩:=rx
 obtain⟨t',rfl⟩:=z
 exact rule i j t t' s _ _ G ⟨.int (g i j),H,I.tok _,⟨_,rfl⟩,q⟩
theorem opI0 {f:Value->Value->Sem Value}{g:Int->Int->Int}
  (rule:∀(i j:Int)(t u:Tok)(s:Shared)(Q:Value->Shared->Prop)(E:Value->Shared->Prop),Q (.int (g i j) s.toks) { s with toks:=s.toks+1 }->wpAny (model X.prog X.w) X.A (f (.int i t) (.int j u)) Q E s):
  OpR X f (rI0 fun i j=>.int (g i j)):=by
 intro pins s σ H x y v u Q I rx z h
 obtain⟨i,j,rfl,rfl,q⟩:=h
 obtain⟨t,rfl⟩:=rx
 obtain⟨t',rfl⟩:=z
 exact rule i j t t' s _ _ ⟨.int (g i j),H,I.tok _,⟨_,rfl⟩,q⟩
theorem opB0 {f:Value->Value->Sem Value}{g:Int->Int->Bool}
  (rule:∀(i j:Int)(t u:Tok)(s:Shared)(Q:Value->Shared->Prop)(E:Value->Shared->Prop),Q (.bool (g i j)) s->wpAny (model X.prog X.w) X.A (f (.int i t) (.int j u)) Q E s):
  OpR X f (rI0 fun i j=>.bl (g i j)):=by
 intro pins s σ H x y v u Q I rx z h
 obtain⟨i,j,rfl,rfl,q⟩:=h
 obtain⟨t,rfl⟩:=rx
 obtain⟨t',rfl⟩:=z
 exact rule i j t t' s _ _ ⟨.bl (g i j),H,I,rfl,q⟩
noncomputable def CDiv (i j:Int):Prop:=0<j/\j<1073741824
noncomputable def CPow (i j:Int):Prop:=0<=j/\j<=1000000/\i.natAbs<2^64
noncomputable def CMul (i j:Int):Prop:=(-(2^64)<i/\i<2^64)\/(-(2^64)<j/\j<2^64)
theorem CMul.ok {i j:Int}(h:CMul i j):IntMulOk i j:=by
 rcases h with⟨h1,h2⟩|⟨h1,h2⟩
 .exact .of_left (intBits_le_64 h1 h2)
 .exact .of_right (intBits_le_64 h1 h2)
theorem D2:OpR X (binaryOp .Add) (rI0 fun i j=>.int (i+j)):=opI0 fun _ _ _ _ _ _ _ q=>add_int q
theorem op_sub:OpR X (binaryOp .Sub) (rI0 fun i j=>.int (i-j)):=opI0 fun _ _ _ _ _ _ _ q=>sub_int q
theorem op_mul:OpR X (binaryOp .Mult) (rI CMul fun i j=>.int (i*j)):=opI fun _ _ _ _ _ _ _ z q=>mul_int q z.ok
theorem op_fdiv:OpR X (binaryOp .FloorDiv) (rI CDiv fun i j=>.int (i / j)):=opI fun i j _ _ _ _ _ z q=>by
 have h1:(0:Int)<j:=z.1
 have h2:j<1073741824:=z.2
 exact floordiv_int (by omega) (by rw[Int.fdiv_eq_ediv_of_nonneg i (by omega)];exact q) (.inl (PyProof.noPylong_small (by omega)))
theorem op_mod:OpR X (binaryOp .Mod) (rI (fun _ j=>0<j) fun i j=>.int (i % j)):=opI fun i j _ _ _ _ _ z q=>by
 have h1:(0:Int)<j:=z
 exact mod_int' (by omega) (by rw[Int.fmod_eq_emod_of_nonneg i (by omega)];exact q)
theorem op_pow:OpR X (binaryOp .Pow) (rI CPow fun i j=>.int (i^j.toNat)):=opI fun _ _ _ _ _ _ _ z q=>pow_int_small z.1 z.2.1 z.2.2 q
theorem unI {f:Value->Sem Value}{g:Int->Int}
  (rule:∀(i:Int)(t:Tok)(s:Shared)(Q:Value->Shared->Prop)(E:Value->Shared->Prop),Q (.int (g i) s.toks) { s with toks:=s.toks+1 }->wpAny (model X.prog X.w) X.A (f (.int i t)) Q E s):
  UnR X f (rU fun i=>.int (g i)):=by
 intro pins s σ H x v Q I rx h
 obtain⟨i,rfl,q⟩:=h
 obtain⟨t,rfl⟩:=rx
 exact rule i t s _ _ ⟨.int (g i),H,I.tok _,⟨_,rfl⟩,q⟩
theorem un_neg:UnR X (unaryOp .USub) (rU fun i=>.int (-i)):=unI fun _ _ _ _ _ q=>neg_int q
end
noncomputable def scal:V->V->Bool
 | .non,.non=>true| .non,.int _=>true| .int _,.non=>true| .non,.bl _=>true| .bl _,.non=>true| .non,.str _=>true| .str _,.non=>true
 | .int _,.int _=>true| .bl _,.bl _=>true| .str _,.str _=>true| .byt _,.byt _=>true
 | .int _,.str _=>true| .str _,.int _=>true| .bl _,.str _=>true| .str _,.bl _=>true
 |_,_=>false
noncomputable def rEq:R2:=fun x y H Q=>scal x y=true/\Q (.bl (decide (x=y))) H
noncomputable def rNe:R2:=fun x y H Q=>scal x y=true/\Q (.bl (!decide (x=y))) H
theorem dec_int {i j:Int}:decide (V.int i=V.int j)=(i==j):=by
 rw[Bool.eq_iff_iff]
 simp
theorem dec_bl {i j:Bool}:decide (V.bl i=V.bl j)=(i==j):=by
 rw[Bool.eq_iff_iff]
 simp
theorem dec_str {i j:Str}:decide (V.str i=V.str j)=(i==j):=by
 rw[Bool.eq_iff_iff]
 simp
theorem dec_byt {i j:Array UInt8}:decide (V.byt i=V.byt j)=(i.toList==j.toList):=by
 rw[Bool.eq_iff_iff]
 cases i
 cases j
 simp
section
variable {X:Cx}{a b c:Expr}{ta tb tc:TE}{pos:Pos}
theorem o0 {pins:List (Addr×Obj)}{σ:St}{H:Hp}{s:Shared}{Q:VK}{k i:Bool}(I:Inv X pins σ H s)(q:Q (.bl k) H)(e:k=i):EP X pins σ Q (.bool i) s:=by
 subst e
 exact⟨.bl k,H,I,rfl,q⟩
theorem op_eq:OpR X (compareOp .Eq) rEq:=by
 intro pins s σ H x y v u Q I rx z h
 obtain⟨G,q⟩:=h
 cases x with
 |non=>
  cases rx
  cases y with
  |non=>cases z;exact PySem.EqNone.eq_none_none (o0 I q (by simp))
  |bl j=>cases z;exact PySem.EqNone.eq_none_bool (o0 I q (by simp))
  |int j=>obtain⟨t',rfl⟩:=z;exact PySem.EqNone.eq_none_int (o0 I q (by simp))
  |str j=>obtain⟨t',rfl⟩:=z;exact PySem.EqNone.eq_none_str (o0 I q (by simp))
  |_=>exact absurd (show false=true from G) Bool.false_ne_true
 |bl i=>
  cases rx
  cases y with
  |non=>cases z;exact PySem.EqNone.eq_bool_none (o0 I q (by simp))
  |bl j=>cases z;exact eq_bool (o0 I q dec_bl)
  |str j=>obtain⟨t',rfl⟩:=z;exact PySem.EqMixed.eq_bool_str (o0 I q (by simp))
  |_=>exact absurd (show false=true from G) Bool.false_ne_true
 |int i=>
  obtain⟨t,rfl⟩:=rx
  cases y with
  |non=>cases z;exact PySem.EqNone.eq_int_none (o0 I q (by simp))
  |int j=>obtain⟨t',rfl⟩:=z;exact eq_int (o0 I q dec_int)
  |str j=>obtain⟨t',rfl⟩:=z;exact PySem.EqMixed.eq_int_str (o0 I q (by simp))
  |_=>exact absurd (show false=true from G) Bool.false_ne_true
 |str i=>
  obtain⟨t,rfl⟩:=rx
  cases y with
  |non=>cases z;exact PySem.EqNone.eq_str_none (o0 I q (by simp))
  |bl j=>cases z;exact PySem.EqMixed.eq_str_bool (o0 I q (by simp))
  |int j=>obtain⟨t',rfl⟩:=z;exact PySem.EqMixed.eq_str_int (o0 I q (by simp))
  |str j=>obtain⟨t',rfl⟩:=z;exact eq_str (o0 I q dec_str)
  |_=>exact absurd (show false=true from G) Bool.false_ne_true
 |byt i=>
  obtain⟨t,rfl⟩:=rx
  cases y with
  |byt j=>obtain⟨t',rfl⟩:=z;exact PySem.W.eq_bytes (o0 I q dec_byt)
  |_=>exact absurd (show false=true from G) Bool.false_ne_true
 |_=>cases y <;> exact absurd (show false=true from G) Bool.false_ne_true
theorem op_ne:OpR X (compareOp .NotEq) rNe:=by
 intro pins s σ H x y v u Q I rx z h
 obtain⟨G,q⟩:=h
 cases x with
 |non=>
  cases rx
  cases y with
  |non=>cases z;exact PySem.EqNone.ne_none_none (o0 I q (by simp))
  |bl j=>cases z;exact PySem.EqNone.ne_none_bool (o0 I q (by simp))
  |int j=>obtain⟨t',rfl⟩:=z;exact PySem.EqNone.ne_none_int (o0 I q (by simp))
  |str j=>obtain⟨t',rfl⟩:=z;exact PySem.EqNone.ne_none_str (o0 I q (by simp))
  |_=>exact absurd (show false=true from G) Bool.false_ne_true
 |bl i=>
  cases rx
  cases y with
  |non=>cases z;exact PySem.EqNone.ne_bool_none (o0 I q (by simp))
  |bl j=>cases z;exact ne_bool (o0 I q (congrArg not dec_bl))
  |str j=>obtain⟨t',rfl⟩:=z;exact PySem.EqMixed.ne_bool_str (o0 I q (by simp))
  |_=>exact absurd (show false=true from G) Bool.false_ne_true
 |int i=>
  obtain⟨t,rfl⟩:=rx
  cases y with
  |non=>cases z;exact PySem.EqNone.ne_int_none (o0 I q (by simp))
  |int j=>obtain⟨t',rfl⟩:=z;exact ne_int (o0 I q (congrArg not dec_int))
  |str j=>obtain⟨t',rfl⟩:=z;exact PySem.EqMixed.ne_int_str (o0 I q (by simp))
  |_=>exact absurd (show false=true from G) Bool.false_ne_true
 |str i=>
  obtain⟨t,rfl⟩:=rx
  cases y with
  |non=>cases z;exact PySem.EqNone.ne_str_none (o0 I q (by simp))
  |bl j=>cases z;exact PySem.EqMixed.ne_str_bool (o0 I q (by simp))
  |int j=>obtain⟨t',rfl⟩:=z;exact PySem.EqMixed.ne_str_int (o0 I q (by simp))
  |str j=>obtain⟨t',rfl⟩:=z;exact ne_str (o0 I q (congrArg not dec_str))
  |_=>exact absurd (show false=true from G) Bool.false_ne_true
 |byt i=>
  obtain⟨t,rfl⟩:=rx
  cases y with
  |byt j=>obtain⟨t',rfl⟩:=z;exact PySem.W.ne_bytes (o0 I q (congrArg not dec_byt))
  |_=>exact absurd (show false=true from G) Bool.false_ne_true
 |_=>cases y <;> exact absurd (show false=true from G) Bool.false_ne_true
theorem F7:OpR X (compareOp .Lt) (rI0 fun i j=>.bl (decide (i<j))):=opB0 fun _ _ _ _ _ _ _ q=>lt_int q
theorem op_le:OpR X (compareOp .LtE) (rI0 fun i j=>.bl (decide (i<=j))):=opB0 fun _ _ _ _ _ _ _ q=>le_int q
theorem op_gt:OpR X (compareOp .Gt) (rI0 fun i j=>.bl (decide (j<i))):=opB0 fun _ _ _ _ _ _ _ q=>gt_int q
theorem K6:OpR X (compareOp .GtE) (rI0 fun i j=>.bl (decide (j<=i))):=opB0 fun _ _ _ _ _ _ _ q=>ge_int q
theorem op_isN:OpR X (compareOp .Is) (fun x y H Q=>y= .non/\Q (.bl (decide (x= .non))) H):=by
 intro pins s σ H x y v u Q I rx i h
 obtain⟨rfl,q⟩:=h
 cases i
 refine is_none_gen (o0 I q ?_)
 cases x <;> first
  | (cases rx;rfl)
  | (obtain⟨t,rfl⟩:=rx;rfl)
theorem OpR.or {f:Value->Value->Sem Value}{r j:R2}(h:OpR X f r)(h':OpR X f j):OpR X f (fun x y H Q=>r x y H Q\/j x y H Q):=by
 intro pins s σ H x y v u Q I rx i q
 rcases q with q|q
 .exact h pins s σ H x y v u Q I rx i q
 .exact h' pins s σ H x y v u Q I rx i q
theorem u6 (b:Expr){op:CmpOp}(h:op≠ .In:=by decide)(h2:op≠ .NotIn:=by decide):behindInMarks op b=false:=by
 have e1:(op==CmpOp.In)=false:=by cases op <;> first|rfl|exact absurd rfl h
 have e2:(op==CmpOp.NotIn)=false:=by cases op <;> first|rfl|exact absurd rfl h2
 cases b <;> simp[behindInMarks,e1,e2]
theorem pe_cmpR {op:CmpOp}{r:R2}(j:OpR X (compareOp op) r)(ha:PE X a ta)(z:PE X b tb)(hm:behindInMarks op b=false):PE X (.Compare a [op] [b] pos) (tOp r ta tb):=by
 intro pins s σ H Q I h
 exact wpAny_Compare1 (binT ha z I h fun v u s2 x y H2 G rx i q=>j pins s2 σ H2 x y v u Q G rx i q) hm
noncomputable def tTest (t:TE):TT:=fun σ H Q=>t σ H fun x H'=>∃ k,x= .bl k/\Q k H'
theorem pt_cmpR {op:CmpOp}{r:R2}(J:OpR X (compareOp op) r)(ha:PE X a ta)(L:PE X b tb)(hm:behindInMarks op b=false):PT X (.Compare a [op] [b] pos) (tTest (tOp r ta tb)):=by
 intro pins s σ H Q I h
 refine wpAny_isTrue_Compare1 (thn (ha pins s σ H _ I h) fun v s1 ⟨x,H1,O,r1,G⟩=>thn (L pins s1 σ H1 _ O G) fun u s2 ⟨y,H2,N,r2,q⟩=>
  thn (J pins s2 σ H2 x y v u _ N r1 r2 q) fun c S ⟨z,R,M,i,k,e,j⟩=>?_) hm
 subst e
 cases i
 exact wpAny_truthy_bool ⟨R,M,j⟩
noncomputable def tChain (r r':R2)(ta tb tc:TE):TE:=fun σ H Q=>ta σ H fun x H1=>tb σ H1 fun y H2=>r x y H2 fun z H3=>∃ k,z= .bl k/\
 (if k=true then tc σ H3 fun w' H4=>r' y w' H4 Q else Q (.bl false) H3)
theorem pe_chain {op i:CmpOp}{r q:R2}(ho:OpR X (compareOp op) r)(j:OpR X (compareOp i) q)(ha:PE X a ta)(hb:PE X b tb)(hc:PE X c tc)
  (hm:lastMarks [op,i] [b,c]=false:=by with_unfolding_all rfl):PE X (.Compare a [op,i] [b,c] pos) (tChain r q ta tb tc):=by
 intro pins s σ H Q I h
 refine Compare_chain (thn (ha pins s σ H _ I h) fun v s1 ⟨x,H1,I1,r1,q1⟩=>chain_link (thn (hb pins s1 σ H1 _ I1 q1) fun u s2 ⟨y,H2,I2,r2,Z⟩=>
  thn (ho pins s2 σ H2 x y v u _ I2 r1 r2 Z) fun d R ⟨z,L,J,U,k,e,G⟩=>?_)) hm
 subst e
 cases U
 refine wpAny_truthy_bool ?_
 cases k with
 |false=>exact ite_ff ⟨.bl false,L,J,rfl,G⟩
 |true=>exact ite_tt (chain_last (thn (hc pins R σ L _ J G) fun N O ⟨M,H4,I4,S,Y⟩=>j pins O σ H4 y M u N Q I4 r2 S Y))
noncomputable def TruV (K:PySem.W.Frag)(x:V)(H:Hp)(k:Bool):Prop:=
 match x with
 | .non=>k=false
 | .bl b=>k=b
 | .int i=>k=(i != 0)
 | .str y=>y.length<=sizeLine/\k=((y.length:Int) != 0)
 | .byt y=>y.size<=sizeLine/\k=((y.size:Int) != 0)
 | .ref p=>(∃ xs,SqL K H p xs/\k= !xs.isEmpty)\/(∃ xs,SqT K H p xs/\k= !xs.isEmpty)\/∃ kvs,H p=some (.dK kvs)/\k= !kvs.isEmpty
 |_=>False
theorem isEmpty_kv {i:Type}{kvs:List (i×V)}{vs:List (i×Value)}(r:KV kvs vs):(!vs.isEmpty)= !kvs.isEmpty:=by
 cases r <;> rfl
theorem D7 {xs:List V}{its:List Value}(r:Vals xs its):(!its.toArray.isEmpty)= !xs.isEmpty:=by
 cases r <;> simp
theorem line63:(sizeLine:Nat)<2^63:=by rw[sizeLine_eq];decide
theorem tru_ok:TruR X (fun x H Q=>∃ k,TruV X.K x H k/\Q k H):=by
 intro pins s σ H x v Q I rx h
 obtain⟨k,e,q⟩:=h
 have R:=line63
 have O:sizeLine=16777216:=sizeLine_eq
 cases x with
 |non=>
  cases rx
  have j:k=false:=e
  subst j
  exact truthy_none ⟨H,I,q⟩
 |bl b=>
  cases rx
  have j:k=b:=e
  subst j
  exact wpAny_truthy_bool ⟨H,I,q⟩
 |int i=>
  obtain⟨t,rfl⟩:=rx
  have j:k=(i != 0):=e
  subst j
  exact PySem.P.truthy_int ⟨H,I,q⟩
 |str y=>
  obtain⟨t,rfl⟩:=rx
  obtain⟨M,j⟩:y.length<=sizeLine/\k=((y.length:Int) != 0):=e
  subst j
  exact PySem.P.truthy_str (by omega) ⟨H,I.tok _,q⟩
 |byt y=>
  obtain⟨t,rfl⟩:=rx
  obtain⟨M,j⟩:y.size<=sizeLine/\k=((y.size:Int) != 0):=e
  subst j
  exact PySem.W.truthy_bytes (by omega) ⟨H,I.tok _,q⟩
 |ref p=>
  cases rx
  have j:(∃ xs,SqL X.K H p xs/\k= !xs.isEmpty)\/(∃ xs,SqT X.K H p xs/\k= !xs.isEmpty)\/∃ kvs,H p=some (.dK kvs)/\k= !kvs.isEmpty:=e
  rcases j with⟨xs,G,j⟩|⟨xs,G,j⟩|⟨kvs,G,j⟩
  .subst j
   obtain⟨its,r,J,L⟩:=I.list G
   have z:=r.length
   exact wpAny_truthy_list J.isList (by simp only[List.size_toArray];omega) ⟨H,I.tok _,by rw[D7 r];exact q⟩
  .subst j
   obtain⟨its,r,J,L⟩:=I.tuple G
   have z:=r.length
   exact truthy_tuple J (by simp only[List.size_toArray];omega) ⟨H,I.tok _,by rw[D7 r];exact q⟩
  .subst j
   obtain⟨L,N,vs,r,m⟩:kvs.length<=sizeLine/\(p==sysModules)=false/\∃ vs,KV kvs vs/\s.heap.DictOf (J0 X.prog X.w) p vs:=I.hok p _ G
   have z:kvs.length=vs.length:=Paired.length r
   exact wpAny_truthy_dict N m (by omega) ⟨H,I.tok _,by rw[isEmpty_kv r];exact q⟩
 |_=>exact(show False from e).elim
theorem pt_truth (ha:PE X a ta)(q:∀ i,isTrue a X.env i=(do let v ← i;standAt a.pos;holding [v] (truthy v))):
  PT X a (fun σ H Q=>ta σ H fun x H'=>∃ k,TruV X.K x H' k/\Q k H'):=by
 intro pins s σ H Q I h
 exact isTrue_plain (thn (ha pins s σ H _ I h) fun v s1 ⟨x,H1,z,r1,j⟩=>tru_ok pins s1 σ H1 x v Q z r1 j) (q _)
theorem M7 {x:V}{us:List Value}(r:Vals [x] us):∃ u,us=[u]/\RelV x u:=by
 cases r with
 |cons r1 r2=>cases r2;exact⟨_,rfl,r1⟩
theorem vals2 {x y:V}{us:List Value}(r:Vals [x,y] us):∃ u i,us=[u,i]/\RelV x u/\RelV y i:=by
 cases r with
 |cons r1 r2=>
  cases r2 with
  |cons q j=>cases j;exact⟨_,_,rfl,r1,q⟩
theorem call_abs:CallR X (.builtin "abs") (fun xs H Q=>∃ i,xs=[.int i]/\Q (.int (if i<0 then -i else i)) H):=by
 intro pins s σ H xs us Q I r h
 obtain⟨i,rfl,q⟩:=h
 obtain⟨u,rfl,t,rfl⟩:=M7 r
 exact call_abs_int fun u tk=>⟨.int (if i<0 then -i else i),H,I.tok _,⟨_,rfl⟩,q⟩
theorem call_max2 (G:X.calm=true):CallR X (.builtin "max") (fun xs H Q=>∃ i j,xs=[.int i,.int j]/\Q (.int (if j>i then j else i)) H):=by
 intro pins s σ H xs us Q I r h
 obtain⟨i,j,rfl,q⟩:=h
 obtain⟨u,J,rfl,⟨t,rfl⟩,⟨t',rfl⟩⟩:=vals2 r
 refine max_two_ints (I.ok.hd G) fun h' tk k=>⟨_,H,I.kept k,?_,q⟩
 by_cases z:j>i
 .rw[if_pos z,if_pos z];exact⟨_,rfl⟩
 .rw[if_neg z,if_neg z];exact⟨_,rfl⟩
theorem call_min2 (G:X.calm=true):CallR X (.builtin "min") (fun xs H Q=>∃ i j,xs=[.int i,.int j]/\Q (.int (if j<i then j else i)) H):=by
 intro pins s σ H xs us Q I r h
 obtain⟨i,j,rfl,q⟩:=h
 obtain⟨u,J,rfl,⟨t,rfl⟩,⟨t',rfl⟩⟩:=vals2 r
 refine min_two_ints (I.ok.hd G) fun h' tk k=>⟨_,H,I.kept k,?_,q⟩
 by_cases z:j<i
 .rw[if_pos z,if_pos z];exact⟨_,rfl⟩
 .rw[if_neg z,if_neg z];exact⟨_,rfl⟩
end
end L2
namespace L2
open PySem PySem.Spec PyProof.Rows
structure ObjM (h:Heap)(x dx C:Addr)(mA:Str->Option Value):Prop where
 obj:h.get? x=some (PySem.W.instObj C dx)
 ns:h.Ns1 dx mA
 ne:dx≠x
section
variable {prog:Program}{w:World}{A:Around}{E:Value->Shared->Prop}{s:Shared}{K:PySem.W.Frag}{x dx C f:Addr}{mA:Str->Option Value}{name:Str}{v:Value}
end
section
variable {P:Program}{w:World}{H H':Hp}{h h':Heap}{a C dx:Addr}{fs fs':List (Str×V)}
end
structure Cls (K:PySem.W.Frag)(C:Addr):Prop where
 pg:PySem.W.plainGet K C Str.empty=true
 hd:PySem.W.hasDictIn K C=true
 po:PySem.W.plainOver K C=true
 sa:PySem.W.findIn K (.ref C) "__setattr__"=some (some (.builtin "object.__setattr__"))
theorem Cls.get {K:PySem.W.Frag}{C:Addr}(c:Cls K C)(f:Str):PySem.W.plainGet K C f=true:=c.pg
structure Con (K:PySem.W.Frag)(C:Addr)(f:Str)(v:V)(u:Value):Prop where
 at_:PySem.W.findIn K (.ref C) f=some (some u)
 rel:RelV v u
 get:PySem.W.specialIn K u "__get__"=some none
 cp:PySem.W.copiedNames.contains f=false
structure Meth (K:PySem.W.Frag)(C:Addr)(m:Str)(f:Addr):Prop where
 at_:PySem.W.findIn K (.ref C) m=some (some (.ref f))
 fn:PySem.W.isFn K (.ref f)=true
 kp:PySem.W.keepIn K (.ref f)=true
section
variable {X:Cx}{pins:List (Addr×Obj)}{σ:St}{H:Hp}{s:Shared}{a C dx:Addr}{fs:List (Str×V)}{f:Str}{v:V}{A:Around}{E:Value->Shared->Prop}
end
section
variable {X:Cx}{o e value:Expr}{f:Str}{pos pos' tpos:Pos}{ta tv:TE}
end
section
variable {X:Cx}{pins:List (Addr×Obj)}{σ:St}{H:Hp}{s:Shared}{A:Around}{E:Value->Shared->Prop}{Q:Value->Shared->Prop}{c:Value}{b:Bool}
inductive TyOf (K:PySem.W.Frag)(H:Hp):V->Value->Prop where
 |non:TyOf K H .non (.type "NoneType")
 |bl (x:Bool):TyOf K H (.bl x) (.type "bool")
 |int (i:Int):TyOf K H (.int i) (.type "int")
 |str (x:Str):TyOf K H (.str x) (.type "str")
 |flt (x:UInt64):TyOf K H (.flt x) (.type "float")
 |lst {a:Addr} {xs:List V} (e:H a=some (.lst xs)):TyOf K H (.ref a) (.type "list")
 |frz {a:Addr} {o:Obj} {xs:List V} (e:H a=some (.frz o (.lst xs))):TyOf K H (.ref a) (.type "list")
 |tup {a:Addr} {xs:List V} (e:H a=some (.tup xs)):TyOf K H (.ref a) (.type "tuple")
 |dK {a:Addr} {kvs:List (Key×V)} (e:H a=some (.dK kvs)):TyOf K H (.ref a) (.type "dict")
 |dT {a:Addr} {kvs:List (List Key×V)} (e:H a=some (.dT kvs)):TyOf K H (.ref a) (.type "dict")
 |ins {a C dx:Addr} {fs:List (Str×V)} (e:H a=some (.ins C dx fs)) (cl:Cls K C) (ha:PySem.W.findIn K (.ref C) "__class__"=some (some (.builtin "object.__class__")))
   (hn:PySem.W.specialIn K (.builtin "object.__class__") "__get__"=some (some (.builtin "getset_descriptor.__get__"))) (htk:PySem.W.takesIn K (.builtin "object.__class__")=some true)
   (hm:PySem.W.mroIn K C (.type "object")=some true):TyOf K H (.ref a) (.ref C)
end
end L2
namespace L2
open PySem PySem.Spec PyProof.Rows
structure Room (k:Nat)(A:Around):Prop where
 hd:A.handled=none
 dp:A.depth+3*k+5<recursionLimit
 un:A.units+16*k+200<cLine
theorem Room.mono {j k:Nat}{A:Around}(r:Room k A)(h:j<=k):Room j A:=⟨r.hd,by have:=r.dp;omega,by have:=r.un;omega⟩
theorem Room.deeper {k:Nat}{A:Around}(r:Room (k+1) A)(env:Env):Room k (A.deeper env):=
 ⟨r.hd,by have:=r.dp;show A.depth+1+3*k+5<_;omega,by have:=r.un;show A.units+3+16*k+200<_;omega⟩
theorem Room.in1 {k:Nat}{A:Around}(r:Room (k+1) A):Room k A.in1:=
 ⟨r.hd,by have:=r.dp;show A.depth+3*k+5<_;omega,by have:=r.un;show A.units+1+16*k+200<_;omega⟩
theorem Room.depth {k:Nat}{A:Around}(r:Room k A):A.depth<recursionLimit:=by have:=r.dp;omega
theorem Room.units {k:Nat}{A:Around}(r:Room k A):A.units+64<cLine:=by have:=r.un;omega
noncomputable def tNil:TA:=fun _ H Q=>Q [] H
noncomputable def tCons (ta:TE)(tr:TA):TA:=fun σ H Q=>ta σ H fun x H1=>tr σ H1 fun xs H2=>Q (x::xs) H2
section
variable {X:Cx}{e:Expr}{es:List Expr}{te:TE}{t:TA}{pos:Pos}
theorem pa_nil:PA X [] tNil:=fun _ _ _ _ H Q I h=>Calls.spliced_nil ⟨[],H,I,.nil,h⟩
theorem b9 (ha:PE X e te)(G:PA X es t)(z:starEach (e::es) X.env=(false,eval e X.env)::starEach es X.env:=by rfl):PA X (e::es) (tCons te t):=by
 intro pos pins s σ H Q I h
 rw[z]
 show wpAny _ _ (spliced ((false,eval e X.env)::backTo pos (starEach es X.env))) _ _ s
 refine Calls.spliced_cons (thn (ha pins s σ H _ I h) fun u s1 i=>?_)
 obtain⟨x,H1,L,r1,q⟩:=i
 exact thn (G pos pins s1 σ H1 _ L q) fun us s2 ⟨xs,H2,J,r2,j⟩=>⟨x::xs,H2,J,.cons r1 r2,j⟩
noncomputable def tTup (t:TA):TE:=fun σ H Q=>t σ H fun xs H1=>xs.length<=sizeLine/\∀ p,H1 p=none->Q (.ref p) (upd H1 p (.tup xs))
noncomputable def tLst (t:TA):TE:=fun σ H Q=>t σ H fun xs H1=>xs.length<=sizeLine/\∀ p,H1 p=none->Q (.ref p) (upd H1 p (.lst xs))
theorem pe_tup {j}(h:PA X es t):PE X (.Tuple es j pos) (tTup t):=by
 intro pins s σ H Q I G
 refine wpAny_Tuple_spliced (thn (h pos pins s σ H _ I G) fun us s1 ⟨xs,H1,i,r,z,q⟩=>⟨by rw[<-r.length];exact z,?_⟩)
 have J:H1 s1.heap.objs.size=none:=i.hok.fresh (Nat.le_refl _)
 refine⟨.ref s1.heap.objs.size,upd H1 s1.heap.objs.size (.tup xs),i.laid (t':=s1.toks) (fun b u e=>Heap.get?_push_of_some _ e) (Nat.le_refl _) ?_,rfl,q _ J⟩
 exact⟨z,us,r,⟨_,Heap.get?_push_size _ rfl,rfl,_,rfl⟩⟩
theorem pe_lst (h:PA X es t):PE X (.List es pos) (tLst t):=by
 intro pins s σ H Q I j
 refine wpAny_List_spliced (thn (h pos pins s σ H _ I j) fun us s1 ⟨xs,H1,i,r,z,q⟩=>⟨by rw[<-r.length];exact z,?_⟩)
 have G:H1 s1.heap.objs.size=none:=i.hok.fresh (Nat.le_refl _)
 refine⟨.ref s1.heap.objs.size,upd H1 s1.heap.objs.size (.lst xs),i.laid (t':=s1.toks) (fun b u e=>Heap.get?_push_of_some _ e) (Nat.le_refl _) ?_,rfl,q _ G⟩
 exact⟨z,us,0,r,Heap.get?_push_size _ rfl⟩
end
noncomputable abbrev Sp:=List V->Hp->VK->XK->Prop
noncomputable abbrev CXT:=List Env->Hp->Shared->XK->Value->Shared->Prop
structure Env0 (P:Program)(w:World)(K:PySem.W.Frag)(mg:Str->Option Value)(base:Heap)(A:Around)(outer:List Env)(s:Shared)(H:Hp):Prop where
 frames:A.frames=some outer
 mod:Mod K mg base
 bs:∀ b o,base.get? b=some o->s.heap.get? b=some o/\H b=none
 bsz:base.objs.size<=s.heap.objs.size
 funs:s.heap.FunFrames base outer
 frf:∀ b∈frs outer,H b=none
 hok:HOk P w H s.heap
 bare:AllBare s.gens
noncomputable def CE (outer:List Env)(P:Program)(w:World)(H:Hp)(s:Shared)(Q:VK)(u:Value)(s':Shared):Prop:=
 ∃ v H',s'.os=s.os/\AllBare s'.gens/\Un (frs outer) [] H H' s.heap s'.heap/\HOk P w H' s'.heap/\RelV v u/\Q v H'
noncomputable def CR (CX:CXT)(outer:List Env)(P:Program)(w:World)(H:Hp)(s:Shared)(Q:VK)(E:XK)(r:Result)(s':Shared):Prop:=
 match r with
 | .ok (.ret u)=>CE outer P w H s Q u s'
 | .ok _=>False
 | .error e=>CX outer H s E e s'
structure FnOk (P:Program)(w:World)(K:PySem.W.Frag)(mg:Str->Option Value)(base:Heap)(CX:CXT)(k:Nat)(f:Addr)(fd:FuncData)(ps:List Str)(sp:Sp):Prop where
 len:∀ vs H Q E,sp vs H Q E->vs.length=ps.length
 run:∀(A:Around)(outer:List Env)(s:Shared)(H:Hp)(args:Args)(us:List Value)(vs:List V)(Q:VK)(E:XK),Room k A->Env0 P w K mg base A outer s H->BindsTo s fd args (ps.zip us)->Vals vs us->sp vs H Q E->
  codeAny (model P w) A (.call (.ref f) args) (CR CX outer P w H s Q E) s
theorem FnOk.mono {P:Program}{w:World}{K:PySem.W.Frag}{mg:Str->Option Value}{base:Heap}{CX:CXT}{j k:Nat}{f:Addr}{fd:FuncData}{ps:List Str}{sp:Sp}(F:FnOk P w K mg base CX j f fd ps sp)(h:j<=k):
  FnOk P w K mg base CX k f fd ps sp:=⟨F.len,fun A outer s H args us vs Q E i=>F.run A outer s H args us vs Q E (i.mono h)⟩
theorem FnOk.imp {P:Program}{w:World}{K:PySem.W.Frag}{mg:Str->Option Value}{base:Heap}{CX:CXT}{k:Nat}{f:Addr}{fd:FuncData}{ps:List Str}{sp i:Sp}(F:FnOk P w K mg base CX k f fd ps sp)
  (h:∀ vs H Q E,i vs H Q E->sp vs H Q E):FnOk P w K mg base CX k f fd ps i:=
 ⟨fun vs H Q E q=>F.len vs H Q E (h _ _ _ _ q),fun A outer s H args us vs Q E G I J j z=>F.run A outer s H args us vs Q E G I J j (h _ _ _ _ z)⟩
theorem Env0.in1 {P:Program}{w:World}{K:PySem.W.Frag}{mg:Str->Option Value}{base:Heap}{A:Around}{outer:List Env}{s:Shared}{H:Hp}(e:Env0 P w K mg base A outer s H):
  Env0 P w K mg base A.in1 outer s H:=⟨e.frames,e.mod,e.bs,e.bsz,e.funs,e.frf,e.hok,e.bare⟩
section
variable {X:Cx}{pins:List (Addr×Obj)}{σ:St}{H:Hp}{s s':Shared}
theorem Inv.env0 (I:Inv X pins σ H s):Env0 X.prog X.w X.K X.mg X.base X.A X.stack s H:=
 ⟨I.ok.frames,I.ok.mod,I.bs,Nat.le_trans I.ok.bsz I.sz,I.stack,I.stkFree,I.hok,I.bare⟩
theorem Inv.after {Q:VK}{u:Value}(I:Inv X pins σ H s)(h:CE X.stack X.prog X.w H s Q u s'):EP X pins σ Q u s':=by
 obtain⟨v,H',os,bare,un,hok,r,q⟩:=h
 obtain⟨hh,g,d,t,i⟩:=s'
 obtain rfl:i=s.os:=os
 exact⟨v,H',I.call (h':=hh) (g':=g) (d':=d) (t':=t) (ch:=[]) un hok bare (fun b z=>absurd z (by simp)),r,q⟩
end
noncomputable def tCall (sp:Sp)(dvs:List V)(E:XK)(t:TA):TE:=fun σ H Q=>t σ H fun vs H1=>sp (vs++dvs) H1 Q E
noncomputable def Binds (K:PySem.W.Frag)(fd:FuncData)(ps:List Str)(ds:List Value):Prop:=
 ∀(s:Shared)(us:List Value),K.In s.heap->(us++ds).length=ps.length->BindsTo s fd ⟨us,[]⟩ (ps.zip (us++ds))
theorem Binds.all {K:PySem.W.Frag}{fd:FuncData}{ps:List Str}(h:∀ us:List Value,us.length=ps.length->bindArgs fd ⟨us,[]⟩=pure (ps.zip us)):Binds K fd ps []:=fun s us _ i=>by
 rw[List.append_nil]at i ⊢
 exact .of_eq (h us i)
noncomputable def Passes (CX:CXT)(X:Cx)(E:XK):Prop:=∀(pins:List (Addr×Obj))(σ:St)(H:Hp)(s:Shared)(e:Value)(s':Shared),Inv X pins σ H s->CX X.stack H s E e s'->X.xe e s'
section
variable {X:Cx}{CX:CXT}{k:Nat}{f C:Addr}{fd:FuncData}{ps:List Str}{sp:Sp}{dvs:List V}{ds:List Value}{E:XK}{x m:Str}{p pos apos:Pos}{e o:Expr}{es:List Expr}{ta:TE}{t:TA}
theorem run_fn {pins:List (Addr×Obj)}{σ:St}{H:Hp}{s:Shared}{Q:VK}{us:List Value}{vs:List V}(F:FnOk X.prog X.w X.K X.mg X.base CX k f fd ps sp)(q:Room k X.A)(G:Binds X.K fd ps ds)(hd:Vals dvs ds)(j:Passes CX X E)
  (I:Inv X pins σ H s) (r:Vals vs us) (h:sp (vs++dvs) H Q E):wpAny (model X.prog X.w) X.A (call (.ref f) us) (EP X pins σ Q) X.xe s:=by
 have r2:Vals (vs++dvs) (us++ds):=r.append hd
 have z:(us++ds).length=ps.length:=by rw[<-r2.length];exact F.len _ _ _ _ h
 refine wpAny_call (codeAny_mono (F.run X.A X.stack s H ⟨us,[]⟩ (us++ds) (vs++dvs) Q E q I.env0 (G s us I.kIn z) r2 h) fun r s' i=>?_)
 cases r with
 |error e=>exact j pins σ H s e s' I i
 |ok fl=>
  cases fl with
  |ret u=>exact I.after i
  |next=>exact False.elim i
  |brk=>exact False.elim i
  |cont=>exact False.elim i
theorem x9 (F:FnOk X.prog X.w X.K X.mg X.base CX k f fd ps sp)(J:Room k X.A)(M:Gl X x)(hm:X.mg x=some (.ref f))(L:PySem.W.keepIn X.K (.ref f)=true)(O:Binds X.K fd ps ds)(hd:Vals dvs ds)(G:Passes CX X E)
  (ha:PA X (e::es) t) (j:(x==("__debug__":Str))=false:=by decide) (N:starEach (e::es) X.env=(false,eval e X.env)::starEach es X.env:=by rfl) (i:(backTo pos (starEach es X.env)).any (·.1)=false:=by rfl):
  PE X (.Call (.Name x p) (e::es) [] pos) (tCall sp dvs E t):=by
 intro pins s σ H Q I h
 refine wpAny_Call_Name_kw (ld_glob I M hm ?_ j)
 refine PySem.W.callWith_K (h₀:=X.base) I.ok.mod.kin L (thn (ha pos pins s σ H _ I h) fun us s1 ⟨vs,H1,z,r,q⟩=>⟨z.kIn,?_⟩) N i
 exact run_fn F J O hd G z r q
structure Mk (K:PySem.W.Frag)(C f:Addr):Prop where
 makes:PySem.W.makesIn K C=true
 init:PySem.W.findIn K (.ref C) "__init__"=some (some (.ref f))
 fn:PySem.W.isFn K (.ref f)=true
 kp:PySem.W.keepIn K (.ref C)=true
end
noncomputable def PK (X:Cx)(kws:List Keyword)(t:TA):Prop:=
 ∀(pos:Pos)(pins:List (Addr×Obj))(s:Shared)(σ:St)(H:Hp)(Q:List V->Hp->Prop),Inv X pins σ H s->t σ H Q->wpAny (model X.prog X.w) X.A (evalAll ((backToKw pos (keywordEach kws X.env)).map (·.2))) (AP X pins σ Q) X.xe s
section
variable {X:Cx}{CX:CXT}{k:Nat}{f C:Addr}{fd:FuncData}{ps ks:List Str}{sp:Sp}{E:XK}{x m:Str}{p pos apos kpos:Pos}{e o:Expr}{es:List Expr}{kws:List Keyword}{te ta:TE}{t tk:TA}{nm:Option Str}
theorem pk_nil:PK X [] tNil:=fun _ _ _ _ H Q I h=>wpAny_evalAll_nil ⟨[],H,I,.nil,h⟩
theorem L8 (ha:PE X e te)(q:PK X kws t):PK X (⟨nm,e,kpos⟩::kws) (tCons te t):=by
 intro pos pins s σ H Q I h
 show wpAny _ _ (evalAll ((do let v ← eval e X.env;standAt pos;pure v)::(backToKw pos (keywordEach kws X.env)).map (·.2))) _ _ s
 refine wpAny_evalAll_cons (wpAny_bind (thn (ha pins s σ H _ I h) fun u s1 ⟨x,H1,G,r1,j⟩=>wpAny_bind (wpAny_standAt (wpAny_pure ?_))))
 exact thn (q pos pins s1 σ H1 _ G j) fun us s2 ⟨xs,H2,z,r2,i⟩=>⟨x::xs,H2,z,.cons r1 r2,i⟩
structure KBinds (K:PySem.W.Frag)(fd:FuncData)(ps ks:List Str)(g:List Value->List Value->List Value)(gV:List V->List V->List V):Prop where
 to:∀(s:Shared)(us ws:List Value),K.In s.heap->(g us ws).length=ps.length->BindsTo s fd ⟨us,ks.zip ws⟩ (ps.zip (g us ws))
 rel:∀{vs:List V}{us:List Value}{zs:List V}{ws:List Value},Vals vs us->Vals zs ws->Vals (gV vs zs) (g us ws)
variable {g:List Value->List Value->List Value}{gV:List V->List V->List V}
end
structure FnScope (N P:List Str)(sc:Scope):Prop where
 kind:sc.kind= .function
 co:sc.isCoroutine=false
 gen:sc.isGenerator=false
 nd:N.Nodup
 pre:N.take P.length=P
 par:∀ x∈P,sc.names.lookup x=some .local\/sc.names.lookup x=some .cell
 nofree:∀ y∈sc.names,y.2≠ .free
theorem bindL_out {kindOf:Str->Option NameKind}{x:Str}:∀{binds:List (Str×Value)}{m:Str->Option Value},(∀ v,(x,v)∉binds)->bindL kindOf binds m x=m x
 |[],_,_=>rfl
 | (n,v)::r,m,h=>by
  unfold bindL
  rw[bindL_out fun w hw=>h w (List.mem_cons_of_mem _ hw)]
  split
  .have:x≠n:=by rintro rfl;exact h v List.mem_cons_self
   simp[this]
  .rfl
theorem bindC_out {kindOf:Str->Option NameKind}{x:Str}:∀{binds:List (Str×Value)}{m:Str->Option Value},(∀ v,(x,v)∉binds)->bindC kindOf binds m x=m x
 |[],_,_=>rfl
 | (n,v)::r,m,h=>by
  unfold bindC
  rw[bindC_out fun w hw=>h w (List.mem_cons_of_mem _ hw)]
  split
  .rfl
  .have:x≠n:=by rintro rfl;exact h v List.mem_cons_self
   simp[this]
theorem bindL_get {kindOf:Str->Option NameKind}{x:Str}{v:Value}:∀{P:List Str}{vs:List Value}{i:Nat}{m:Str->Option Value},P.Nodup->P[i]? =some x->vs[i]? =some v->kindOf x=some .local->
  bindL kindOf (P.zip vs) m x=some v
 |[],_,_,_,_,h,_,_=>by simp at h
 |_::_,[],_,_,_,_,h,_=>by simp at h
 |p::P,w::vs,0,m,nd,h1,h2,hk=>by
  simp at h1 h2;subst h1;subst h2
  show bindL kindOf ((p,w)::P.zip vs) m p=_
  unfold bindL
  rw[bindL_out fun v j=>(List.nodup_cons.mp nd).1 (List.of_mem_zip j).1,if_pos hk]
  simp
 |p::P,w::vs,i+1,m,nd,h1,h2,hk=>by
  show bindL kindOf ((p,w)::P.zip vs) m x=_
  unfold bindL
  exact bindL_get (i:=i) (List.nodup_cons.mp nd).2 (by simpa using h1) (by simpa using h2) hk
theorem bindC_get {kindOf:Str->Option NameKind}{x:Str}{v:Value}:∀{P:List Str}{vs:List Value}{i:Nat}{m:Str->Option Value},P.Nodup->P[i]? =some x->vs[i]? =some v->kindOf x≠some .local->
  bindC kindOf (P.zip vs) m x=some v
 |[],_,_,_,_,h,_,_=>by simp at h
 |_::_,[],_,_,_,_,h,_=>by simp at h
 |p::P,w::vs,0,m,nd,h1,h2,hk=>by
  simp at h1 h2;subst h1;subst h2
  show bindC kindOf ((p,w)::P.zip vs) m p=_
  unfold bindC
  rw[bindC_out fun v j=>(List.nodup_cons.mp nd).1 (List.of_mem_zip j).1,if_neg hk]
  simp
 |p::P,w::vs,i+1,m,nd,h1,h2,hk=>by
  show bindC kindOf ((p,w)::P.zip vs) m x=_
  unfold bindC
  exact bindC_get (i:=i) (List.nodup_cons.mp nd).2 (by simpa using h1) (by simpa using h2) hk
noncomputable def T4 (N:List Str)(vs:List V):St:=vs.map some++List.replicate (N.length-vs.length) none
noncomputable def cxOf (CX:CXT)(P:Program)(w:World)(K:PySem.W.Frag)(mg:Str->Option Value)(base:Heap)(N:List Str)(qual:Str)(scope:Scope)(f:Addr)(cd:Value)(A:Around)(outer:List Env)(s:Shared)(H:Hp)(E:XK):Cx where
 prog:=P
 w:=w
 K:=K
 mg:=mg
 base:=base
 A:=A.deeper (envOfC qual scope s.heap.objs.size f cd)
 N:=N
 s₀:=s
 H₀:=H
 env:=envOfC qual scope s.heap.objs.size f cd
 outer:=outer
 stack:=envOfC qual scope s.heap.objs.size f cd::outer
 ex:=[]
 calm:=true
 fn:=fun _=>true
 pn:=[]
 xe:=fun e s'=>wpAny (model P w) (A.deeper (envOfC qual scope s.heap.objs.size f cd)) (leaving (envOfC qual scope s.heap.objs.size f cd) e) (fun _ s''=>CX outer H s E e s'') (fun e' s''=>CX outer H s E e' s'') s'
theorem cell_has {sc:Scope}{n:Nat}{x:Str}(h:sc.names.lookup x=some .cell):∃ c,(cellsFrom n sc.names []).lookup x=some c:=by
 have q:=PySem.W.cellsFrom_some sc.names n [] (.inl h)
 exact Option.isSome_iff_exists.mp q
theorem inv_start {CX:CXT}{P:Program}{w:World}{K:PySem.W.Frag}{mg:Str->Option Value}{base:Heap}{N ps:List Str}{qual:Str}{scope:Scope}{f:Addr}{L:Value}{A:Around}{outer:List Env}{s s1:Shared}{H:Hp}{E:XK}{us:List Value}{vs:List V}
  (S:FnScope N ps scope) (hd:A.handled=none) (j:Env0 P w K mg base A outer s H) (Y:vs.length=ps.length) (r:Vals vs us)
  (x:InCallC s s.heap.objs.size (bindL (envOfC qual scope s.heap.objs.size f L).kindOf (ps.zip us) fun _=>none) (cellsFrom (s.heap.objs.size+1) scope.names []) (bindC (envOfC qual scope s.heap.objs.size f L).kindOf (ps.zip us) fun _=>none) s1):
  Inv (cxOf CX P w K mg base N qual scope f L A outer s H E) [] (T4 N vs) H s1:=by
 have U:ps.length<=N.length:=by have:=congrArg List.length S.pre;rw[List.length_take]at this;omega
 obtain⟨h1,tk,rfl,O⟩:=x.done
 have G:∀ b:Addr,b∉(cxOf CX P w K mg base N qual scope f L A outer s H E).ex:=fun b z=>absurd (show b∈([]:List Addr)from z) (by simp)
 refine⟨⟨j.mod,S.kind,rfl,rfl,Nat.le_refl _,fun y z c h1 h2=>?_,fun y I=>?_,fun y c _ h=>?_,fun _=>hd,Around.frames_deeper j.frames,.inr ⟨rfl,rfl⟩,fun b z=>absurd z (G b),j.bs,j.bsz,fun b _ _=>G b,fun b z=>absurd z (G b),j.funs,j.frf⟩,
  rfl,j.bare,Un.kept O,⟨_,x.toInCall.ns,fun i y v h1 h2 Z=>?_⟩,fun y c h=>⟨_,x.cell y c h⟩,j.hok.fresh (Nat.le_refl _),fun y c h=>?_,fun p hp=>absurd (show p∈([]:List (Addr×Obj))from hp) (by simp),j.hok.kept O,?_⟩
 .exact name_of_addr x.apart (PySem.mem_of_lookup h1) (PySem.mem_of_lookup h2)
 .have I:scope.names.lookup y=some .cell\/scope.names.lookup y=some .free:=I
  rcases I with I|I
  .exact cell_has I
  .exact absurd rfl (S.nofree _ (PySem.mem_of_lookup I))
 .exact Nat.le_of_lt (x.above y c (PySem.mem_of_lookup h))
 .have hi:i<vs.length:=by
   unfold T4 at h2
   by_cases hi:i<vs.length
   .exact hi
   .rw[List.getElem?_append_right (by simpa using hi)]at h2
    rw[List.getElem?_replicate]at h2
    split at h2 <;> cases h2
  have ha:vs[i]? =some v:=by
   unfold T4 at h2
   rw[List.getElem?_append_left (by simpa using hi),List.getElem?_map]at h2
   cases e:vs[i]? with
   |none=>rw[e]at h2;cases h2
   |some a=>rw[e]at h2;cases h2;rfl
  obtain⟨u,M,R⟩:=r.get ha
  have hp:ps[i]? =some y:=by
   rw[<-S.pre,List.getElem?_take_of_lt (by omega)];exact h1
  have J:ps.Nodup:=by rw[<-S.pre];exact S.nd.sublist (List.take_sublist _ _)
  refine⟨u,R,?_⟩
  rcases S.par y (List.mem_of_getElem? hp)with k|k
  .exact .inl ⟨k,bindL_get J hp M k⟩
  .obtain⟨c,e⟩:=cell_has (n:=s.heap.objs.size+1) k
   refine .inr ⟨.inl k,c,e,?_⟩
   have q:=x.cell y c e
   rw[bindC_get J hp M (by show scope.names.lookup y≠_;rw[k];decide)]at q
   exact q
 .exact j.hok.fresh (Nat.le_of_lt (x.above y c (PySem.mem_of_lookup h)))
 .unfold T4
  show _=N.length
  rw[List.length_append,List.length_map,List.length_replicate]
  omega
theorem fn_of {CX:CXT}{P:Program}{w:World}{K:PySem.W.Frag}{mg:Str->Option Value}{base:Heap}{k:Nat}{f:Addr}{name qual:Str}{i:Arguments}{body:List Stmt}{scope:Scope}{dV kV doc pm cdv ct oc:Value}{an od:Option Addr}
  {osl:Array (Option Value)} {N ps:List Str} {sp:Sp} (lk:K.lookup f=some ⟨oc,od,.func (PySem.W.fnOf name qual i body scope dV kV doc pm an cdv ct),osl⟩) (Z:PySem.W.codeIn K cdv qual=true) (S:FnScope N ps scope)
  (len:∀ vs H Q E,sp vs H Q E->vs.length=ps.length)
  (G:∀(A:Around)(outer:List Env)(s:Shared)(H:Hp)(vs:List V)(Q:VK)(E:XK),Room k (A.deeper (envOfC qual scope s.heap.objs.size f cdv))->sp vs H Q E->
   ∃ t,PSs (cxOf CX P w K mg base N qual scope f cdv A outer s H E) body t/\t { nx:=fun _ H'=>Q .non H',rt:=Q } (T4 N vs) H):
  FnOk P w K mg base CX (k+1) f (PySem.W.fnOf name qual i body scope dV kV doc pm an cdv ct) ps sp:=by
 refine⟨len,fun A outer s H args us vs Q E Y O hb r M=>?_⟩
 have hl:=len _ _ _ _ M
 have KX:K.In s.heap:=O.mod.kin.keeps fun b o e=>(O.bs b o e).1
 have U:s.heap.NoLimit:=O.mod.nolimit.keeps fun b o e=>(O.bs b o e).1
 have z:∀ y∈ps.zip us,scope.names.lookup y.1=some .local\/(scope.names.lookup y.1=some .cell/\((cellsFrom (s.heap.objs.size+1) scope.names []).lookup y.1).isSome=true):=fun⟨n,v⟩ hy=>by
  rcases S.par n (List.of_mem_zip hy).1 with q|q
  .exact .inl q
  .exact .inr ⟨q,PySem.W.cellsFrom_some _ _ _ (.inl q)⟩
 refine codeAny_call_function Y.depth (KX _ _ lk) rfl S.co S.gen rfl (PySem.W.codeRec_of KX Z) (hb _ _ _ _ ?_)
 refine wpAny_newFunctionEnv_cells S.kind z fun env he s1 x=>?_
 subst he
 refine⟨U.keeps x.toInCall.keep,codeAny_func ?_⟩
 obtain⟨t,ht,hq⟩:=G A outer s H vs Q E (Y.deeper _) M
 have I:Inv (cxOf CX P w K mg base N qual scope f cdv A outer s H E) [] (T4 N vs) H s1:=inv_start S Y.hd O hl r x
 refine wpAny_mono (ht [] s1 (T4 N vs) H _ I hq) (fun fl s' L=>?_) fun e s' L=>L
 have fin:∀{j:St}{H':Hp}{v:V}{u:Value},Inv (cxOf CX P w K mg base N qual scope f cdv A outer s H E) [] j H' s'->RelV v u->Q v H'->CE outer P w H s Q u s':=
  fun{j H' v u} J R q=>⟨v,H',J.os,J.bare,J.base,J.hok,R,q⟩
 cases fl with
 |ret u=>
  obtain⟨v,j,H',J,R,q⟩:=L
  exact fin J R q
 |next=>
  obtain⟨j,H',J,q⟩:=L
  exact fin (v:=V.non) (u:=Value.none) J rfl q
 |brk=>
  obtain⟨_,_,_,q⟩:=L
  exact False.elim q
 |cont=>
  obtain⟨_,_,_,q⟩:=L
  exact False.elim q
end L2
namespace L2
open PySem PySem.Spec PyProof.Rows
section
variable {X:Cx}{x:Str}{p pos:Pos}{e:Expr}{es:List Expr}{t:TA}{id T:String}{r:List V->Hp->VK->Prop}
noncomputable def tCB (r:List V->Hp->VK->Prop)(t:TA):TE:=fun σ H Q=>t σ H fun vs H1=>r vs H1 Q
theorem U4 (L:CallR X (.builtin id) r)(G:Gl X x)(hm:X.mg x=none)(z:bootBuiltins x=some (.builtin id))(ha:PA X (e::es) t)(hn:x≠"__name__":=by decide)(j:(x==("__debug__":Str))=false:=by decide)
  (J:starEach (e::es) X.env=(false,eval e X.env)::starEach es X.env:=by rfl) (i:(backTo pos (starEach es X.env)).any (·.1)=false:=by rfl):PE X (.Call (.Name x p) (e::es) [] pos) (tCB r t):=by
 intro pins s σ H Q I h
 refine wpAny_Call_Name_kw (X2 I G hm z ?_ hn j)
 exact PyProof.Rows.callWith_builtin1 (thn (ha pos pins s σ H _ I h) fun us s1 ⟨vs,H1,M,r1,q⟩=>L pins s1 σ H1 vs us Q M r1 q) J i
theorem pe_callTy (L:CallR X (.type T) r)(G:Gl X x)(hm:X.mg x=none)(z:bootBuiltins x=some (.type T))(ha:PA X (e::es) t)(hn:x≠"__name__":=by decide)(j:(x==("__debug__":Str))=false:=by decide)
  (J:starEach (e::es) X.env=(false,eval e X.env)::starEach es X.env:=by rfl) (i:(backTo pos (starEach es X.env)).any (·.1)=false:=by rfl):PE X (.Call (.Name x p) (e::es) [] pos) (tCB r t):=by
 intro pins s σ H Q I h
 refine wpAny_Call_Name_kw (X2 I G hm z ?_ hn j)
 exact PyProof.Rows.callWith_type1 (thn (ha pos pins s σ H _ I h) fun us s1 ⟨vs,H1,M,r1,q⟩=>L pins s1 σ H1 vs us Q M r1 q) J i
end
end L2
namespace HT
open PySem PyProof.Rows
theorem rcLt_int (A:Around)(s:Shared)(a:Int)(t:Tok)(c:Int)(u:Tok)(prog:Program)(w:World)(E:Value->Shared->Prop)(Q:Value->Shared->Prop)(h:Q (.bool (decide (a<c))) s):
  wpAny (model prog w) A (richCompare .Lt (.int a t) (.int c u)) Q E s:=
 (PyProof.Rows.lt_int h:wpAny (model prog w) A (compareOp .Lt (.int a t) (.int c u)) Q E s)
section
open PySem.SeqAt
open PySem.AutoSeq1 (wpAny_loadPart')
open PySem.MeetsSeq PySem.MeetsSeq2 PySem.MeetsSeq3
end
section
variable {prog:Program}{w:World}{A:Around}{E:Value->Shared->Prop}{s:Shared}
noncomputable def sIx (n d:Nat):Option Int->Nat
 |none=>d
 |some v=>if v<0 then (v+(n:Int)).toNat else min v.toNat n
theorem sIx_none (n d:Nat):sIx n d none=d:=rfl
theorem sIx_nat (n d k:Nat):sIx n d (some (k:Int))=min k n:=by
 show (if (k:Int)<0 then ((k:Int)+(n:Int)).toNat else min (k:Int).toNat n)=min k n
 rw[if_neg (by omega),Int.toNat_natCast]
end
end HT
namespace L2
open PySem PySem.Spec PyProof.Rows
noncomputable abbrev TO:=St->Hp->(Option Int->Hp->Prop)->Prop
noncomputable def PO (X:Cx)(e:Option Expr)(t:TO):Prop:=
 ∀(pins:List (Addr×Obj))(s:Shared)(σ:St)(H:Hp)(Q:Option Int->Hp->Prop),Inv X pins σ H s->t σ H Q->
  wpAny (model X.prog X.w) X.A (evalPart e X.env) (fun u s'=>∃ o H',Inv X pins σ H' s'/\IsPart u o/\Q o H') X.xe s
noncomputable def tNoPart:TO:=fun _ H Q=>Q none H
noncomputable def tPart (t:TE):TO:=fun σ H Q=>t σ H fun x H1=>∃ i,x= .int i/\Q (some i) H1
section
variable {X:Cx}{e:Expr}{te:TE}{lo hi:Option Expr}{tl th:TO}{pos p2:Pos}
theorem po_none:PO X none tNoPart:=by
 intro pins s σ H Q I h
 rw[evalPart_none]
 exact wpAny_pure ⟨none,H,I,.none,h⟩
theorem po_some (h:PE X e te):PO X (some e) (tPart te):=by
 intro pins s σ H Q I hw
 rw[evalPart_some]
 refine thn (h pins s σ H _ I hw) fun u s1 j=>?_
 obtain⟨x,H1,G,r1,z⟩:=j
 obtain⟨i,rfl,q⟩:=z
 obtain⟨t,rfl⟩:=r1
 exact⟨some i,H1,G,.int i t,q⟩
noncomputable def SlR (X:Cx)(r:V->Option Int->Option Int->Hp->VK->Prop):Prop:=
 ∀(pins:List (Addr×Obj))(s:Shared)(σ:St)(H:Hp)(x:V)(v vl vu:Value)(lo hi:Option Int)(sl:Addr)(Q:VK),Inv X pins σ H s->RelV x v->s.heap.IsSliceOf sl vl vu .none->IsPart vl lo->IsPart vu hi->r x lo hi H Q->
  ∃ T id,typeLookup (.type T) "__getitem__"=pure (some (.builtin id))/\s.TypeIs v T/\wpAny (model X.prog X.w) X.A (getItem v (.ref sl)) (EP X pins σ Q) X.xe s
theorem SlR.or {r z:V->Option Int->Option Int->Hp->VK->Prop}(h:SlR X r)(h':SlR X z):SlR X (fun x lo hi H Q=>r x lo hi H Q\/z x lo hi H Q):=by
 intro pins s σ H x v j i lo hi sl Q I rx L J G q
 rcases q with q|q
 .exact h pins s σ H x v j i lo hi sl Q I rx L J G q
 .exact h' pins s σ H x v j i lo hi sl Q I rx L J G q
noncomputable def tSl (r:V->Option Int->Option Int->Hp->VK->Prop)(te:TE)(tl th:TO):TE:=fun σ H Q=>te σ H fun x H1=>tl σ H1 fun l H2=>th σ H2 fun u H3=>r x l u H3 Q
theorem pe_slice {r:V->Option Int->Option Int->Hp->VK->Prop}(Y:SlR X r)(he:PE X e te)(Z:PO X lo tl)(S:PO X hi th):PE X (.Subscript e (.Slice lo hi none p2) pos) (tSl r te tl th):=by
 intro pins s σ H Q I h
 refine Subscript_ (thn (he pins s σ H _ I h) fun v s1 i=>?_)
 obtain⟨x,H1,I1,r1,N⟩:=i
 refine wpAny_Slice (thn (Z pins s1 σ H1 _ I1 N) fun G s2 ⟨l,H2,I2,R,M⟩=>thn (S pins s2 σ H2 _ I2 M) fun z j i=>?_)
 obtain⟨u,J,I3,O,L⟩:=i
 rw[evalPart_none]
 refine wpAny_pure ?_
 have I4:Inv X pins σ J { j with heap:=j.heap.push { cls:=.type "slice",data:=.fields #[G,z,.none] } }:=I3.kept (t':=j.toks) fun b ob q=>Heap.get?_push_of_some _ q
 obtain⟨T,id,hT,U,hg⟩:=Y pins { j with heap:=j.heap.push { cls:=.type "slice",data:=.fields #[G,z,.none] } } σ J x v G z l u j.heap.objs.size Q I4 r1 (Heap.IsSliceOf.new ..) R O L
 show wpAny (model X.prog X.w) X.A (subscriptTail e (.Slice lo hi none p2) v (.ref j.heap.objs.size)) (EP X pins σ Q) X.xe { j with heap:=j.heap.push { cls:=.type "slice",data:=.fields #[G,z,.none] } }
 exact tail_any (ops:=[.ref j.heap.objs.size,v]) U hT hg (by with_unfolding_all rfl)
noncomputable def cutV (xs:List V)(lo hi:Option Int):List V:=(xs.drop (HT.sIx xs.length 0 lo)).take (HT.sIx xs.length xs.length hi-HT.sIx xs.length 0 lo)
theorem cutV_length (xs:List V)(lo hi:Option Int):(cutV xs lo hi).length<=xs.length:=by
 unfold cutV
 rw[List.length_take,List.length_drop]
 omega
end
end L2
namespace L2
open PySem PySem.Spec PyProof.Rows
noncomputable def ixN (n:Nat)(i:Int):Option Nat:=if 0<=i then (if i<n then some i.toNat else none)else if -(n:Int)<=i then some (i+n).toNat else none
noncomputable def atI {α:Type}(xs:List α)(i:Int):Option α:=(ixN xs.length i).bind fun j=>xs[j]?
theorem ixN_seq {n:Nat}{i:Int}{j:Nat}(h:ixN n i=some j):seqIndex? i n=some j/\j<n/\ -(n:Int)<=i/\i<n:=by
 unfold ixN at h
 by_cases q:0<=i
 .rw[if_pos q]at h
  by_cases h1:i<n
  .rw[if_pos h1]at h
   have e:i.toNat=j:=Option.some.inj h
   exact⟨by rw[seqIndex_of q h1,e],by omega,by omega,h1⟩
  .rw[if_neg h1]at h;cases h
 .rw[if_neg q]at h
  by_cases h1:-(n:Int)<=i
  .rw[if_pos h1]at h
   have e:(i+n).toNat=j:=Option.some.inj h
   exact⟨by rw[seqIndex_neg (by omega) h1,e],by omega,h1,by omega⟩
  .rw[if_neg h1]at h;cases h
theorem atI_get {q:Type}{xs:List q}{i:Int}{v:q}(h:atI xs i=some v):∃ j,seqIndex? i xs.length=some j/\xs[j]? =some v/\j<xs.length/\ -(xs.length:Int)<=i/\i<xs.length:=by
 unfold atI at h
 cases e:ixN xs.length i with
 |none=>rw[e]at h;cases h
 |some j=>
  rw[e]at h
  obtain⟨h1,h2,G,z⟩:=ixN_seq e
  exact⟨j,h1,h,h2,G,z⟩
noncomputable def PlainIx (b:Expr):Prop:=∀ o i,subscripted b false o i=operate [o,i] (getItem o i)
noncomputable def IxR (X:Cx)(r:R2):Prop:=
 ∀(value slice:Expr)(pins:List (Addr×Obj))(s:Shared)(σ:St)(H:Hp)(x y:V)(v u:Value)(Q:VK),Inv X pins σ H s->RelV x v->RelV y u->r x y H Q->
  subscripted slice false v u=operate [v,u] (getItem v u)->wpAny (model X.prog X.w) X.A (subscriptTail value slice v u) (EP X pins σ Q) X.xe s
noncomputable def MtR (X:Cx)(id:String)(r:V->List V->Hp->VK->Prop):Prop:=
 ∀(pins:List (Addr×Obj))(s:Shared)(σ:St)(H:Hp)(x:V)(xs:List V)(v:Value)(us:List Value)(Q:VK),Inv X pins σ H s->RelV x v->Vals xs us->r x xs H Q->
  wpAny (model X.prog X.w) X.A (call (.builtin id) (v::us)) (EP X pins σ Q) X.xe s
section
variable {X:Cx}{a b:Expr}{ta tb:TE}{pos:Pos}
theorem IxR.or {r z:R2}(h:IxR X r)(h':IxR X z):IxR X (fun x y H Q=>r x y H Q\/z x y H Q):=by
 intro value i pins s σ H x y v u Q I rx j q G
 rcases q with q|q
 .exact h value i pins s σ H x y v u Q I rx j q G
 .exact h' value i pins s σ H x y v u Q I rx j q G
theorem MtR.or {id:String}{r j:V->List V->Hp->VK->Prop}(h:MtR X id r)(h':MtR X id j):MtR X id (fun x xs H Q=>r x xs H Q\/j x xs H Q):=by
 intro pins s σ H x xs v us Q I rx i q
 rcases q with q|q
 .exact h pins s σ H x xs v us Q I rx i q
 .exact h' pins s σ H x xs v us Q I rx i q
theorem pe_ix {r:R2}(z:IxR X r)(ha:PE X a ta)(G:PE X b tb)(j:PlainIx b):PE X (.Subscript a b pos) (tOp r ta tb):=by
 intro pins s σ H Q I h
 exact Subscript_ (binT ha G I h fun v u s2 x y H2 J rx i q=>z a b pins s2 σ H2 x y v u Q J rx i q (j _ _))
noncomputable def rIxL (K:PySem.W.Frag):R2:=fun x y H Q=>∃ p xs i v,x= .ref p/\y= .int i/\SqL K H p xs/\atI xs i=some v/\Q v H
theorem ix_list:IxR X (rIxL X.K):=by
 intro value G pins s σ H x y v u Q I rx R h M
 obtain⟨p,xs,i,z,rfl,rfl,S,Y,q⟩:=h
 cases rx
 obtain⟨t,rfl⟩:=R
 obtain⟨its,r,L,hz⟩:=I.list S
 obtain⟨j,h1,h2,h3,h4,Z⟩:=atI_get Y
 obtain⟨w,O,J⟩:=r.get h2
 have U:=r.length
 have hn:=line63
 have fin:EP X pins σ Q w s:=⟨z,H,I,J,q⟩
 by_cases N:0<=i
 .have hj:i.toNat=j:=by
   rw[seqIndex_of N Z]at h1
   exact Option.some.inj h1
  exact item_listR L.isList N (by omega) (by rw[hj];simpa using O) fin M
 .have hj:(i+(its.toArray.size:Int)).toNat=j:=by
   rw[seqIndex_neg (by omega) h4]at h1
   rw[List.size_toArray,<-U]
   exact Option.some.inj h1
  exact subscriptTail_builtinR (x:=w) L.isList.typeIs slot_list_getitem.lookup
   (wpAny_getItem_list_neg (Q:=fun r s'=>r=w/\EP X pins σ Q r s') L.isList (by omega) (by rw[List.size_toArray] <;> omega) (by omega) (by rw[hj];simpa using O) ⟨rfl,fin⟩) M
theorem mapSeq_set (its:List Value)(n j:Nat)(u:Value):Obj.mapSeq (·.setIfInBounds j u) { cls:=.type "list",data:=.seq its.toArray n }={ cls:=.type "list",data:=.seq (its.set j u).toArray n }:=by
 simp[Obj.mapSeq]
theorem Inv.lst {pins:List (Addr×Obj)}{σ:St}{H:Hp}{s:Shared}{p:Addr}{xs:List V}(I:Inv X pins σ H s)(h:H p=some (.lst xs)):
  ∃(its:List Value)(n:Nat),Vals xs its/\s.heap.get? p=some { cls:=.type "list",data:=.seq its.toArray n }/\xs.length<=sizeLine:=by
 obtain⟨z,its,n,r,e⟩:=I.hok p _ h
 exact⟨its,n,r,e,z⟩
theorem Inv.lstUpd {pins:List (Addr×Obj)}{σ:St}{H:Hp}{s:Shared}{p:Addr}{xs ys:List V}{its its':List Value}{n i:Nat}{f:Obj->Obj}(I:Inv X pins σ H s)(h:H p=some (.lst xs))
  (G:s.heap.get? p=some { cls:=.type "list",data:=.seq its.toArray n }) (j:f { cls:=.type "list",data:=.seq its.toArray n }={ cls:=.type "list",data:=.seq its'.toArray i }) (r:Vals ys its') (z:ys.length<=sizeLine) (t:Nat):
  Inv X pins σ (upd H p (.lst ys)) { s with heap:=s.heap.update p f,toks:=t }:=by
 have e:(s.heap.update p f).get? p=some { cls:=.type "list",data:=.seq its'.toArray i }:=by
  rw[Heap.get?_update_self f G (by rw[j] <;> rfl),j]
 refine I.write (x:=p) (e:=p) (by rw[h];trivial) (.inl rfl) (fun b u J q=>(Heap.get?_update_other _ _ (Ne.symm J)).trans q) ⟨_,e⟩ ?_
 exact⟨z,its',i,r,e⟩
noncomputable def rSetL:V->V->V->Hp->(Hp->Prop)->Prop:=fun o i v H Q=>∃ p xs k j,o= .ref p/\i= .int k/\H p=some (.lst xs)/\ixN xs.length k=some j/\Q (upd H p (.lst (xs.set j v)))
theorem d8:PSet X rSetL:=by
 intro pins s σ H o i v Z iv u Q I R S O h
 obtain⟨p,xs,k,j,rfl,rfl,hp,Y,q⟩:=h
 cases R
 obtain⟨t,rfl⟩:=S
 obtain⟨its,n,r,z,U⟩:=I.lst hp
 obtain⟨h1,h2,L,J⟩:=ixN_seq Y
 have G:=r.length
 have hn:=line63
 have N:Inv X pins σ (upd H p (.lst (xs.set j v))) { s with heap:=s.heap.update p (Obj.mapSeq (·.setIfInBounds j u)) }:=
  I.lstUpd hp z (mapSeq_set its n j u) (r.set O j) (by rw[List.length_set];exact U) s.toks
 by_cases M:0<=k
 .have hk:k.toNat=j:=by
   rw[seqIndex_of M J]at h1
   exact Option.some.inj h1
  exact PySem.W.ki_setAt z M (by omega) (by rw[List.size_toArray,<-G];exact J) (by rw[hk];exact⟨_,N,q⟩)
 .have hk:(k+(its.toArray.size:Int)).toNat=j:=by
   rw[seqIndex_neg (by omega) L]at h1
   rw[List.size_toArray,<-G]
   exact Option.some.inj h1
  exact PySem.W.ki_setBack z (by omega) (by rw[List.size_toArray,<-G];exact L) (by omega) (by rw[hk];exact⟨_,N,q⟩)
theorem slice_bounds (lo hi:Option Int)(n:Nat):(sliceBounds lo hi none n).1=((HT.sIx n 0 lo:Nat):Int)/\(sliceBounds lo hi none n).2.1=((HT.sIx n n hi:Nat):Int)/\(sliceBounds lo hi none n).2.2=1:=by
 refine⟨?_,?_,rfl⟩
 .cases lo with
  |none=>simp[sliceBounds,HT.sIx]
  |some i=>
   simp only[sliceBounds,HT.sIx,Option.getD_none,show (1:Int)>0 by decide,if_true]
   by_cases h:i<0
   .simp only[h,if_true] <;> omega
   .simp only[h,if_false] <;> omega
 .cases hi with
  |none=>simp[sliceBounds,HT.sIx]
  |some i=>
   simp only[sliceBounds,HT.sIx,Option.getD_none,show (1:Int)>0 by decide,if_true]
   by_cases h:i<0
   .simp only[h,if_true] <;> omega
   .simp only[h,if_false] <;> omega
theorem slicePick_cut (its:List Value)(lo hi:Option Int):slicePick its.toArray lo hi none=((its.drop (HT.sIx its.length 0 lo)).take (HT.sIx its.length its.length hi-HT.sIx its.length 0 lo)).toArray:=by
 obtain⟨h1,h2,i⟩:=slice_bounds lo hi its.toArray.size
 unfold slicePick
 rw[h1,h2,i]
 simp only[sliceRange_one,pick_run,List.size_toArray] <;> rfl
noncomputable def rSlL (K:PySem.W.Frag):V->Option Int->Option Int->Hp->VK->Prop:=fun x lo hi H Q=>∃ a xs,x= .ref a/\SqL K H a xs/\∀ p,H p=none->Q (.ref p) (upd H p (.lst (cutV xs lo hi)))
theorem sl_list:SlR X (rSlL X.K):=by
 intro pins s σ H x v O N lo hi sl Q I rx M G z h
 obtain⟨a,xs,rfl,L,q⟩:=h
 cases rx
 obtain⟨its,r,j,J⟩:=I.list L
 have i:=r.length
 refine⟨"list",_,slot_list_getitem.lookup,j.isList.typeIs,?_⟩
 refine wpAny_getItem_list_slice j.isList M G z .none (by simp) ?_ (by rw[List.size_toArray] <;> omega)
 rw[slicePick_cut,<-i]
 refine⟨.ref s.heap.objs.size,_,I.laid (t':=s.toks) (o:=.lst (cutV xs lo hi)) (fun b ob q=>Heap.get?_push_of_some _ q) (Nat.le_refl _) ?_,rfl,q _ (I.hok.fresh (Nat.le_refl _))⟩
 exact⟨Nat.le_trans (cutV_length xs lo hi) J,_,0,(r.drop (HT.sIx xs.length 0 lo)).take (HT.sIx xs.length xs.length hi-HT.sIx xs.length 0 lo),Heap.get?_push_size _ rfl⟩
theorem call_len_seq:CallR X (.builtin "len") (fun xs H Q=>∃ p ys,xs=[.ref p]/\(SqL X.K H p ys\/SqT X.K H p ys)/\Q (.int ys.length) H):=by
 intro pins s σ H xs us Q I r h
 obtain⟨p,ys,rfl,j,q⟩:=h
 obtain⟨u,rfl,rx⟩:=M7 r
 cases rx
 have hn:=line63
 rcases j with j|j
 .obtain⟨its,r',pl,hz⟩:=I.list j
  have i:=r'.length
  exact Calls.call_len_list pl.isList (by simp only[List.size_toArray] <;> omega) ⟨.int ys.length,H,I.tok _,⟨s.toks+1,by rw[List.size_toArray,i]⟩,q⟩
 .obtain⟨its,r',pl,hz⟩:=I.tuple j
  have i:=r'.length
  exact len_tuple pl (by simp only[List.size_toArray] <;> omega) ⟨.int ys.length,H,I.tok _,⟨s.toks+1,by rw[List.size_toArray,i]⟩,q⟩
theorem CallR.or {f:Value}{r j:List V->Hp->VK->Prop}(h:CallR X f r)(h':CallR X f j):CallR X f (fun xs H Q=>r xs H Q\/j xs H Q):=by
 intro pins s σ H xs us Q I i q
 rcases q with q|q
 .exact h pins s σ H xs us Q I i q
 .exact h' pins s σ H xs us Q I i q
noncomputable def tyV (K:PySem.W.Frag)(T:String)(x:V)(H:Hp):Prop:=match x with
 | .str _=>T="str"
 | .int _=>T="int"
 | .ref p=>(T="list"/\∃ xs,SqL K H p xs)\/(T="tuple"/\∃ o,K.lookup p=some o/\o.cls= .type "tuple"/\o.dict=none)\/
   (T="dict"/\((∃ kvs,H p=some (.dK kvs))\/∃ kvs,H p=some (.dT kvs)))\/(T="set"/\∃ S n,H p=some (.set S n))
 |_=>False
theorem tyV_is {pins:List (Addr×Obj)}{σ:St}{H:Hp}{s:Shared}{T:String}{x:V}{v:Value}(I:Inv X pins σ H s)(r:RelV x v)(ty:tyV X.K T x H):
  s.TypeIs v T/\∀ a,v= .ref a->∃ ob,s.heap.get? a=some ob/\ob.dict=none:=by
 cases x with
 |str z=>
  obtain⟨t,rfl⟩:=r
  cases (show T="str" from ty)
  exact⟨typeIs_str s z t,fun _ e=>nomatch e⟩
 |int i=>
  obtain⟨t,rfl⟩:=r
  cases (show T="int" from ty)
  exact⟨typeIs_int s i t,fun _ e=>nomatch e⟩
 |ref p=>
  cases r
  rcases ty with⟨rfl,xs,q⟩|⟨rfl,o,j,G,hd⟩|⟨rfl,j⟩|⟨rfl,S,n,j⟩
  .obtain⟨its,_,pl,_⟩:=I.list q
   refine⟨pl.isList.typeIs,fun a e=>?_⟩
   cases e
   obtain⟨o,n,e,c,hd,_⟩:=pl
   exact⟨o,e,hd⟩
  .refine⟨⟨o,I.kIn p o j,G⟩,fun a e=>?_⟩
   cases e
   exact⟨o,I.kIn _ o j,hd⟩
  .have z:∃ o,s.heap.get? p=some o/\o.ExactDict:=by
    rcases j with⟨kvs,j⟩|⟨kvs,j⟩
    .obtain⟨_,_,_,_,o,_,_,e,ex,_⟩:=I.hok p _ j
     exact⟨o,e,ex⟩
    .obtain⟨_,_,_,_,o,_,_,e,ex,_⟩:=I.hok p _ j
     exact⟨o,e,ex⟩
   obtain⟨o,e,ex⟩:=z
   refine⟨⟨o,e,ex.1⟩,fun a e2=>?_⟩
   cases e2
   exact⟨o,e,ex.2.1⟩
  .obtain⟨o,_,_,_,e,ex,_⟩:=I.hok p _ j
   refine⟨⟨o,e,ex.1⟩,fun a e2=>?_⟩
   cases e2
   exact⟨o,e,ex.2.1⟩
 |_=>exact False.elim ty
noncomputable def tBM (K:PySem.W.Frag)(T:String)(r:V->List V->Hp->VK->Prop)(to:TE)(t:TA):TE:=fun σ H Q=>to σ H fun x H1=>tyV K T x H1/\t σ H1 fun xs H2=>r x xs H2 Q
variable {o e:Expr}{es:List Expr}{to:TE}{t:TA}{name:Str}{apos cpos:Pos}{T id:String}{r:V->List V->Hp->VK->Prop}
theorem pe_bm (R:PlainAttrs T)(slot:Slot T name id)(J:typeOf (.builtin id)=pure (.type "method_descriptor"))(hm:MtR X id r)(U:PE X o to)(ha:PA X (e::es) t)
  (q:attributeBase o name X.env (eval o X.env)=eval o X.env:=by rfl)
  (G:((backTo cpos (starEach (e::es) X.env)).all (fun x=>!x.1)&&(backToKw cpos (keywordEach [] X.env)).all (fun x=>x.1.isSome)
   &&decide ((e::es).length+([]:List Keyword).length+(if ([]:List Keyword).isEmpty then 0 else 1)<30))=true:=by rfl)
  (j:(apos.endLine==cpos.line)=true:=by rfl) (S:starEach (e::es) X.env=(false,eval e X.env)::starEach es X.env:=by rfl) (i:(backTo cpos (starEach es X.env)).any (·.1)=false:=by rfl):
  PE X (.Call (.Attribute o name apos) (e::es) [] cpos) (tBM X.K T r to t):=by
 intro pins s σ H Q I h
 refine wpAny_Call_method_late q G j rfl (thn (U pins s σ H _ I h) fun v s1 z=>?_)
 obtain⟨x,H1,M,r1,ty,O⟩:=z
 obtain⟨h1,h2⟩:=tyV_is M r1 ty
 refine⟨T,id,R,slot,J,h1,h2,?_⟩
 have L:=ha cpos pins s1 σ H1 _ M O
 rw[S]at L ⊢
 refine Calls.callWith_builtin (by show (false || (backTo cpos (starEach es X.env)).any (·.1))=false;rw[i] <;> rfl) (Calls.evalArgs_plain ?_)
 exact thn L fun us s2 ⟨vs,H2,Y,r2,N⟩=>hm pins s2 σ H2 x vs v us Q Y r1 r2 N
/- xs.append(e),list.index on a module's tuple .. are MtR facts of 06m -/
end
end L2
namespace L2
open PySem PySem.Spec PyProof.Rows
noncomputable def MtM (X:Cx)(id:String)(r:V->List V->Hp->VK->Prop):Prop:=
 ∀(pins:List (Addr×Obj))(s:Shared)(σ:St)(H:Hp)(x:V)(xs:List V)(v:Value)(us:List Value)(Q:VK),Inv X pins σ H s->RelV x v->Vals xs us->r x xs H Q->
  wpAny (model X.prog X.w) X.A (call (.builtin id) (v::us)) (EP X pins σ Q) X.xe s
theorem Vals.one:∀{x:V}{us:List Value},Vals [x] us->∃ u,us=[u]/\RelV x u
 |_,_,.cons r .nil=>⟨_,rfl,r⟩
theorem Vals.zero:∀{us:List Value},Vals [] us->us=[]
 |_,.nil=>rfl
theorem Vals.reverse {xs:List V}{us:List Value}(h:Vals xs us):Vals xs.reverse us.reverse:=by
 induction h with
 |nil=>exact .nil
 |cons r t i=>rw[List.reverse_cons,List.reverse_cons];exact Vals.append i (.cons r .nil)
theorem Vals.rep {xs:List V}{us:List Value}(h:Vals xs us):∀ k:Nat,Vals (List.replicate k xs).flatten (List.replicate k us).flatten
 |0=>.nil
 |k+1=>by
  rw[List.replicate_succ,List.replicate_succ,List.flatten_cons,List.flatten_cons]
  exact Vals.append h (Vals.rep h k)
theorem foldl_rep (its:List Value):∀(k:Nat)(acc:List Value),
  List.foldl (fun j i=>j++i) acc.toArray (List.replicate k its.toArray)=(acc++(List.replicate k its).flatten).toArray
 |0,acc=>by simp
 |k+1,acc=>by
  have e:acc.toArray++its.toArray=(acc++its).toArray:=by simp
  have e2:(acc++its)++(List.replicate k its).flatten=acc++(List.replicate (k+1) its).flatten:=by
   rw[List.replicate_succ,List.flatten_cons,List.append_assoc]
  rw[<-e2,<-foldl_rep its k (acc++its),<-e,List.replicate_succ,List.foldl_cons]
section
variable {X:Cx}{pins:List (Addr×Obj)}{σ:St}{H:Hp}{s:Shared}{l b:Addr}{xs ys zs:List V}
theorem Inv.lset {its its':List Value}{n:Nat}{f:Array Value->Array Value}{t':Nat}(I:Inv X pins σ H s)(L:H l=some (.lst xs))
  (e:s.heap.get? l=some { cls:=.type "list",data:=.seq its.toArray n }) (G:f its.toArray=its'.toArray) (j:Vals ys its') (i:ys.length<=sizeLine):
  Inv X pins σ (upd H l (.lst ys)) { s with heap:=s.heap.update l (Obj.mapSeq f),toks:=t' }:=by
 have q:=PySem.IsL.update e f
 rw[G]at q
 refine I.write (x:=l) (e:=l) (by rw[L];exact trivial) (.inl rfl) (fun M u J z=>(Heap.get?_update_other s.heap (Obj.mapSeq f) (Ne.symm J)).trans z) ⟨_,q⟩ ?_
 exact⟨i,its',_,j,q⟩
theorem Inv.lnew {its:List Value}{t':Nat}(I:Inv X pins σ H s)(j:Vals ys its)(i:ys.length<=sizeLine):
  Inv X pins σ (upd H s.heap.objs.size (.lst ys)) { s with heap:=s.heap.push { cls:=.type "list",data:=.seq its.toArray },toks:=t' }:=
 I.laid (fun _ _ q=>Heap.get?_push_of_some _ q) (Nat.le_refl _) ⟨i,its,0,j,Heap.get?_push_size _ rfl⟩
theorem Inv.fresh (I:Inv X pins σ H s):H s.heap.objs.size=none:=I.hok.fresh (Nat.le_refl _)
theorem Inv.lstM (I:Inv X pins σ H s)(i:H l=some (.lst xs)):xs.length<=sizeLine/\∃(its:List Value)(n:Nat),Vals xs its/\xs.length=its.length/\s.heap.get? l=some { cls:=.type "list",data:=.seq its.toArray n }:=by
 obtain⟨z,its,n,r,e⟩:=I.hok l _ i
 exact⟨z,its,n,r,r.length,e⟩
theorem notLongL {n:Nat}(h:n<=sizeLine):Builtin.List.listTooLong n=false:=by
 unfold Builtin.List.listTooLong
 exact decide_eq_false (by omega)
end
section
variable {X:Cx}
noncomputable def rAppend:V->List V->Hp->VK->Prop:=fun x vs H Q=>∃ l xs y,x= .ref l/\vs=[y]/\H l=some (.lst xs)/\xs.length<sizeLine/\Q .non (upd H l (.lst (xs++[y])))
theorem Q0:MtM X "list.append" rAppend:=by
 intro pins s σ H x vs v us Q I rx j h
 obtain⟨l,xs,y,rfl,rfl,i,J,q⟩:=h
 cases rx
 obtain⟨u,rfl,G⟩:=j.one
 obtain⟨z,its,n,r,L,e⟩:=I.lstM i
 refine call_meets F.slot_list_append ⟨_,e,rfl⟩ F.entry_list_append (F.args_list_append_2 _ _) (PySem.list_append l its.toArray n u (by rw[List.size_toArray];omega)) ⟨e,?_⟩
 refine⟨.non,_,I.lset (its':=its++[u]) i e (by simp) (r.append (.cons G .nil)) ?_,rfl,q⟩
 rw[List.length_append,List.length_singleton]
 omega
noncomputable def rRep:R2:=fun x y H Q=>∃ l k xs,x= .ref l/\y= .int k/\H l=some (.lst xs)/\ -(2^63)<=k/\k<2^63/\xs.length*k.toNat<=sizeLine/\
 ∀ p,H p=none->Q (.ref p) (upd H p (.lst (List.replicate k.toNat xs).flatten))
theorem len_rep {i:Type}(xs:List i)(k:Nat):(List.replicate k xs).flatten.length=k*xs.length:=by
 induction k with
 |zero=>simp
 |succ k j=>rw[List.replicate_succ,List.flatten_cons,List.length_append,j,Nat.succ_mul,Nat.add_comm]
theorem op_rep:OpR X (binaryOp .Mult) rRep:=by
 intro pins s σ H x y v u Q I rx R h
 obtain⟨l,k,xs,rfl,rfl,Y,h1,h2,O,q⟩:=h
 cases rx
 obtain⟨t,rfl⟩:=R
 obtain⟨z,its,n,r,S,e⟩:=I.lstM Y
 have G:its.toArray.size*k.toNat<=sizeLine:=by rw[List.size_toArray,<-S];exact O
 have L:¬ its.toArray.size*k.toNat>(2^63-1) / 8:=by
  have:(sizeLine:Nat)<=(2^63-1) / 8:=by decide
  omega
 have J:¬ (!Builtin.List.listFitsIndex k)=true:=by
  rw[fitsIndex_both h1 h2]
  exact Bool.false_ne_true
 have i:¬ Builtin.List.listTooLong (its.toArray.size*k.toNat)=true:=by
  rw[notLongL G]
  exact Bool.false_ne_true
 have j:List.foldl (fun N M=>N++M) #[] (List.replicate (if its.toArray.isEmpty=true then 0 else k.toNat) its.toArray)=(List.replicate k.toNat its).flatten.toArray:=by
  have Z:∀ m:Nat,List.foldl (fun N M=>N++M) #[] (List.replicate m its.toArray)=(List.replicate m its).flatten.toArray:=fun m=>by
   have:=foldl_rep its m []
   rw[List.nil_append]at this
   exact this
  rw[Z]
  cases its with
  |nil=>simp
  |cons a r'=>rw[if_neg (by simp)]
 refine wpAny_binaryOp_repeat_ref (T:="list") (U:="int") (by decide) ⟨_,e,rfl⟩ (fun s'=>typeIs_int s' k t) noFill_list_mul F.fills_int_mul F.slot_int_rmul repeat_list F.slot_int_index.lookup
  (call_meets F.slot_int_rmul (typeIs_int s k t) F.entry_int_rmul (F.args_int_rmul_2 _ _) (int___rmul___int_list k t l its.toArray n)
   ⟨e,rfl,⟨_,e,rfl⟩,call_meets F.slot_list_mul ⟨_,e,rfl⟩ F.entry_list_mul (F.args_list_mul_2 _ _) (AutoListH.list___mul___list_int_3 l its.toArray n k t J L i) ⟨e,?_⟩⟩)
 rw[j]
 exact⟨.ref _,_,I.lnew (t':=s.toks) (r.rep k.toNat) (by rw[len_rep,Nat.mul_comm];exact O),rfl,q _ I.fresh⟩
end
section
variable {prog:Program}{w:World}{A:Around}{E:Value->Shared->Prop}{s:Shared}
end
section
variable {X:Cx}
end
end L2
namespace Att
open PySem PySem.W PySem.Calls PyProof.Rows
theorem J4 {P:Params}{h:Heap}:∀(ns:List Int)(vs:List Value),WellAll P h vs (ns.map WData.int)->IntsAre vs ns:=by
 intro ns
 induction ns with
 |nil=>
  intro vs w
  rw[List.map_nil]at w
  cases w
  exact .nil
 |cons n ns i=>
  intro vs w
  rw[List.map_cons]at w
  cases w with
  |cons a b=>
   cases a
   exact .cons _ _ (i _ b)
theorem script_of {l:OpenLaw}{n:Nat}(hn:l.most=some n){P:Params}{h:Heap}{args:List WData}{i:List Value}
  (j:l.row.toRowW.claim.pre args=true) (L:WellAll P h i args):
  ∃ a vs ns,i=[Value.ref a]/\args=[WData.list (ns.map WData.int)]/\h.get? a=some { cls:=.type "list",data:=.seq vs.toArray }/\IntsAre vs ns/\ns.length<=n:=by
 have M:WShape.hasAll [] args [.list .int]=true:=(pre_splitW j).1
 have N:l.pre.holds [] { args:=args }=true:=(pre_splitW j).2
 obtain⟨d,r,rfl,h1,h2⟩:=hasAllW_cons M
 obtain rfl:=hasAllW_nil h2
 obtain⟨xs,rfl,Y⟩:=hasW_list h1
 obtain⟨ns,rfl⟩:=items_int Y
 have z:ns.length<=n:=by
  unfold OpenLaw.pre at N
  have J:(WTm.not (.lt (.lit (.int (n:Int))) (.len (.arg 0)))).holds [] { args:=[.list (ns.map .int)] }=true:=by
   have J:=(holds_andW N).1
   rw[hn]at J
   exact J
  have I:=condW_of J (w_not (w_lt w_lit (w_len_list (w_arg rfl))))
  rw[List.length_map]at I
  refine Nat.le_of_not_lt fun q=>?_
  have S:(n:Int)<((ns.length:Nat):Int):=by omega
  first
   | (rw[decide_eq_true S]at I;exact absurd I (by decide))
   | (simp at I;omega)
 cases L with
 |cons R O=>
  cases O
  cases R with
  |list U G=>exact⟨_,_,ns,rfl,rfl,U,J4 ns _ G,z⟩
theorem post_true (l:OpenLaw)(args:List WData):l.row.toRowW.claim.post args (.bool true) args=true:=
 postW_of (r:=l.row.toRowW) (X:=(true==true))
  (show WShape.has [] (.bool true) .bool=true by first|rfl|decide|simp[WShape.has,WShape.arms,WShape.armsAll])
  (show (WTm.eq .res (.lit (.bool true))).value [] { args:=args,res:=some (.bool true),after:=args }=some (.bool (true==true))from w_eq_bool (w_res rfl) w_lit) rfl
theorem attach_call {l:OpenLaw}{n:Nat}{q:Program}{j:List Str}{XP:(Str->Option Value)->Heap->Prop}{YP:World->Heap->Prop}{d:DefRec}
  (hn:l.most=some n) (S:d.params.defaults=[])
  (call:∀(w:World)(s₀ i:Shared)(mg mb:Str->Option Value)(M:Addr)(o:Obj)(pm N doc:Value)(a:Addr)(vs:List Value)(ns:List Int),
   Ground q j [] XP w s₀ mg mb i.heap->YP w i.heap->
   i.heap.get? M=some o->o.data= .func (docDef d.name d.params d.body d.scope pm N doc)->i.heap.CodeRec N d.name->mg d.name=some (.ref M)->
   i.heap.get? a=some { cls:=.type "list",data:=.seq vs.toArray }->IntsAre vs ns->ns.length<=n->i.gens=#[]->
   codeAny (model l.prog w) callerA (.call (.ref M) ⟨[.ref a],[]⟩) (fun r s'=>r= .ok (.ret (.bool true))/\OldK i.heap s'.heap/\s'.os=i.os/\AllBare s'.gens) i):
  WalkO q j XP YP l.row.toRowW d [] (fun f vs=>PySem.call f vs):=by
 intro w s₀ i mg mb G Y M o pm N doc dV kV ho hd U hD R hg args Z as I a0 a1 O a2
 obtain rfl:dV= .none:=Dflts.none hD S
 obtain rfl:kV= .none:=Dflts.noKw hD
 obtain⟨a,vs,ns,rfl,rfl,J,z,L⟩:=script_of hn I O
 refine enter_call (codeAny_mono (call w s₀ i mg mb M o pm N doc a vs ns G Y ho (fd_plain hd) U R J z L hg) fun r s' hq=>?_)
 obtain⟨rfl,h2,h3,h4⟩:=hq
 exact⟨.inl ⟨.bool true,.bool true,[],rfl,fun _=>rfl,.bool true,post_true l _,fun _=>⟨List.Pairwise.nil,fun _ hm=>(nomatch hm)⟩⟩,h2,h3,h4⟩
section
variable {prog:Program}{w:World}{A:Around}{E:Value->Shared->Prop}{s:Shared}{K:Frag}
end
end Att
namespace L2
open PySem PySem.Spec PyProof.Rows
theorem vals_ints:∀{vs:List Value}{ns:List Int},IntsAre vs ns->Vals (ns.map V.int) vs
 |_,_,.nil=>.nil
 |_,_,.cons n t h=>.cons ⟨t,rfl⟩ (vals_ints h)
noncomputable def Only (H:Hp):Prop:=∀ b,H b=none\/∃ o xs,H b=some (.frz o (.lst xs))
theorem law_call {P:Program}{w:World}{K:PySem.W.Frag}{mg mb:Str->Option Value}{CX:CXT}{k:Nat}{fa a:Addr}{fd:FuncData}{x:Str}{sp:Sp}{i:Shared}{vs:List Value}{ns:List Int}
  (KX:K.In i.heap) (R:i.heap.Ns mainGlobals mg) (G:i.heap.Ns builtinsNs mb) (a0:∀ x:Str,x≠"__name__"->mb x=bootBuiltins x) (S:i.heap.NoLimit) (hg:i.gens=#[])
  (ha:i.heap.get? a=some { cls:=.type "list",data:=.seq vs.toArray }) (hi:IntsAre vs ns) (hl:ns.length<=sizeLine) (hr:Room k callerA)
  (F:∀ base:Heap,K.In base->base.Ns mainGlobals mg->FnOk P w K mg base CX k fa fd [x] sp) (L:∀(s:Shared)(u:Value),BindsTo s fd ⟨[u],[]⟩ [(x,u)])
  (Z:∀ H:Hp,Only H->SqL K H a (ns.map V.int)->sp [.ref a] H (fun v _=>v= .bl true) fun _ _ _=>False)
  (a1:∀ H e s',CX [] H i (fun _ _ _=>False) e s'->False):
  codeAny (model P w) callerA (.call (.ref fa) ⟨[.ref a],[]⟩) (fun r s'=>r= .ok (.ret (.bool true))/\OldK i.heap s'.heap/\s'.os=i.os/\AllBare s'.gens) i:=by
 have rv:=vals_ints hi
 have N:=hi.length
 have J:∀ H:Hp,Only H->SqL K H a (ns.map V.int)->HOk P w H i.heap->(∀ b,H b≠none->b=a)->(H a≠none->K.lookup a=none)->
   codeAny (model P w) callerA (.call (.ref fa) ⟨[.ref a],[]⟩) (fun r s'=>r= .ok (.ret (.bool true))/\OldK i.heap s'.heap/\s'.os=i.os/\AllBare s'.gens) i:=by
  intro H hO hS hok hA hK
  have j:∀{b:Addr}{o:Obj},i.heap.get? b=some o->H b=none->(hidT i.heap H).get? b=some o:=fun e n=>hidT_get e n
  have Y:∀{b:Addr}{o:Obj}{es:Array DictEntry}{ep:Nat},i.heap.get? b=some o->o.data= .dict es ep->H b=none:=fun{b o es ep} e d=>by
   cases q:H b with
   |none=>rfl
   |some u=>
    have e':b=a:=hA b (by rw[q];simp)
    subst e'
    rw[ha]at e;cases e
    have d':Data.seq vs.toArray _=Data.dict es ep:=d
    cases d'
  have I:∀{b:Addr}{m:Str->Option Value},i.heap.Ns b m->(hidT i.heap H).Ns b m:=fun{b m} ⟨o,es,ep,e,d,r⟩=>⟨o,es,ep,j e (Y e d),d,r⟩
  have U:K.In (hidT i.heap H):=fun b o e=>j (KX b o e) (by
   cases q:H b with
   |none=>rfl
   |some u=>
    have e':b=a:=hA b (by rw[q];simp)
    subst e'
    rw[hK (by rw[q];simp)]at e;cases e)
  have hM:Mod K mg (hidT i.heap H):=⟨U,I R,⟨mb,I G,a0⟩,let ⟨mc,h1,h2⟩:=S;⟨mc,I h1,h2⟩⟩
  have e0:Env0 P w K mg (hidT i.heap H) callerA [] i H:=⟨rfl,hM,fun b o e=>of_hidT e,Nat.le_of_eq (hidT_size _ _),trivial,fun b G=>absurd (show b∈([]:List Addr)from G) (by simp),hok,.of_eq hg⟩
  refine codeAny_mono ((F _ U (I R)).run callerA [] i H ⟨[.ref a],[]⟩ [.ref a] [.ref a] _ _ hr e0 (L i (.ref a)) (.cons rfl .nil) (Z H hO hS)) fun r s' h=>?_
  cases r with
  |error e=>exact(a1 H e s' h).elim
  |ok fl=>
   cases fl with
   |next=>exact False.elim h
   |brk=>exact False.elim h
   |cont=>exact False.elim h
   |ret u=>
    obtain⟨v,H',os,bare,un,O,r',q⟩:=h
    have q':v= .bl true:=q
    subst q'
    obtain rfl:u=Value.bool true:=r'
    refine⟨rfl,OldK.of_keep fun b o e=>?_,os,bare⟩
    cases q:H b with
    |none=>exact un.keep b o e q (by intro z;exact absurd (show b∈([]:List Addr)from z) (by simp)) (by simp)
    |some u=>
     rcases hO b with z|⟨ob,xs,z⟩
     .rw[q]at z;cases z
     .have z2:=un.frzs b ob _ z
      obtain⟨e1,_⟩:=hok b _ z
      obtain⟨e2,_⟩:=O b _ z2
      rw[e]at e1;cases e1
      exact e2
 cases hk:K.lookup a with
 |some o=>
  have e:=KX a o hk
  rw[ha]at e
  cases e
  refine J (fun _=>none) (fun _=>.inl rfl) (.inr ⟨_,vs.toArray,_,hk,rfl,rfl,rfl,by rw[List.size_toArray,N];exact hl,by simpa using rv⟩) (fun b u z=>by have M:(none:Option HO)=some u:=z;cases M) (fun b z=>absurd rfl z) fun z=>absurd rfl z
 |none=>
  refine J (fun b=>if b=a then some (.frz { cls:=.type "list",data:=.seq vs.toArray } (.lst (ns.map V.int)))else none) (fun b=>?_) (.inl (.inr ⟨{ cls:=.type "list",data:=.seq vs.toArray },if_pos rfl⟩)) (fun b u z=>?_) (fun b z=>?_) fun _=>hk
  .by_cases G:b=a
   .exact .inr ⟨_,_,if_pos G⟩
   .exact .inl (if_neg G)
  .by_cases G:b=a
   .have M:=(if_pos G).symm.trans z
    cases M
    subst G
    exact⟨ha,by rw[List.length_map];exact hl,vs,_,rv,ha⟩
   .have M:=(if_neg G).symm.trans z
    cases M
  .by_cases G:b=a
   .exact G
   .exact absurd (if_neg G) z
end L2
namespace L2
open PySem PySem.Spec PyProof.Rows
noncomputable abbrev KOf {K:PySem.W.Frag}{h:Heap}(_:K.In h):PySem.W.Frag:=K
theorem walk_of {l:PySem.W.OpenLaw}{n k:Nat}{q:Program}{j:List Str}{XP:(Str->Option Value)->Heap->Prop}{U:World->Heap->Prop}{d:DefRec}{K:Params->PySem.W.Frag}{CX:World->CXT}{sp:World->Sp}{x:Str}
  (hn:l.most=some n) (N:n<=sizeLine) (R:d.params.defaults=[]) (hr:Room k callerA)
  (hY:∀(w:World)(h:Heap),U w h->(K w.params).In h)
  (F:∀(w:World)(mg:Str->Option Value)(L:Addr)(h:Heap),(K w.params).In h->h.Ns mainGlobals mg->mg d.name=some (.ref L)->
   ∃ fd:FuncData,(∀(s:Shared)(u:Value),BindsTo s fd ⟨[u],[]⟩ [(x,u)])/\
    ∀ base:Heap,(K w.params).In base->base.Ns mainGlobals mg->FnOk l.prog w (K w.params) mg base (CX w) k L fd [x] (sp w))
  (M:∀(w:World)(H:Hp)(a:Addr)(ns:List Int),ns.length<=n->Only H->SqL (K w.params) H a (ns.map V.int)->sp w [.ref a] H (fun v _=>v= .bl true) fun _ _ _=>False)
  (S:∀(w:World)(H:Hp)(s:Shared)(e:Value)(s':Shared),CX w [] H s (fun _ _ _=>False) e s'->False):
  PySem.W.WalkO q j XP U l.row.toRowW d [] (fun f vs=>PySem.call f vs):=by
 refine Att.attach_call hn R fun w s₀ I mg mb L o pm cd doc a vs ns G Y ho hd a0 O J z i hg=>?_
 have Z:=hY w _ Y
 obtain⟨fd,hb,hF⟩:=F w mg L _ Z G.T.g O
 exact law_call Z G.T.g G.T.b G.T.builtins G.T.nolimit hg J z (Nat.le_trans i N) hr hF hb (fun H hO hS=>M w H a ns i hO hS) fun H e s'=>S w H I e s'
end L2
/- THE LAST THEOREM (shape;LID,My.*are yours):
   My.Adr:a structure of the addresses that your layer names (classes,functions);My.Txt K t:a structure (Prop) of the equations over K;
   My.txt_mk:{K} {implicit addresses ..} (e1:nsIn K mainGlobals "law"=some (some (.ref f))) (e2:K.lookup f=some ⟨oc,od,.func (fnOf "law" "law" params body scope dV kV doc pm an cdv ct),sl⟩) (e3:codeIn K cdv "law"=true) .. :∃ t,My.Txt K t
set_option maxRecDepth 100000 in
set_option maxHeartbeats 0 in
theorem PySem.Challenge.cw_LID_holds : PySem.Challenge.rw_LID.Holds := by
 w_on;o_law;k_head;(case hw=>w_witness2)
 k_fill
 refine L2.walk_of (l:=PySem.Challenge.rw_LID) (n:=63) (k:=40) (x:="script") (CX:=fun w=>..) (sp:=fun _=>My.sp_Z24) rfl (by decide) rfl ⟨rfl,by decide,by decide⟩ (fun w h Y=>PySem.W.kIn_of Y) ?F ?S ?C
 case F=>
  intro w mg fa h KX G hmg
  have T:∃ t,My.Txt (L2.KOf KX) t:=by
   dsimp only[L2.KOf]                          -- K must stand as «<heap const> w.params» for k_is
   refine' My.txt_mk ?e1 ?e2 ?e3 ..
   (case e1=>PySem.W.k_is)                    -- in the order:a name->its address->its object->its parts
   (case e2=>PySem.W.k_is)
   ..
  obtain⟨t,T⟩:=T
  have e0:=hmg.symm.trans (PySem.W.mg_of KX G T.law)
  cases e0                                       -- fa is the law's own address
  exact⟨_,fun s u=>.of_eq rfl,fun base kb nb=>My.law_fn T kb nb⟩     -- if «.of_eq rfl» comes too early:refine' ⟨_,?b,fun base kb nb=>My.law_fn T kb nb⟩;exact fun s u=>.of_eq rfl
 case S=>exact fun w H a ns hl hO hS=>..
 case C=>exact ..
(the tactic k_is has no namespace:write k_is) -/
namespace L2
open PySem PySem.Spec PyProof.Rows
noncomputable def u8 (s:Stmt):Arguments:=match s with
 | .FunctionDef _ a _ _ _ _ _ _ _ _=>a
 |_=>{ posonlyargs:=[],args:=[],vararg:=none,kwonlyargs:=[],kw_defaults:=[],kwarg:=none,defaults:=[] }
noncomputable def v7 (s:Stmt):List Stmt:=match s with
 | .FunctionDef _ _ b _ _ _ _ _ _ _=>b
 |_=>[]
noncomputable def y6 (s:Stmt):Scope:=match s with
 | .FunctionDef _ _ _ _ _ _ sc _ _ _=>sc
 |_=>{ kind:=.function,names:=[],isGenerator:=false,isCoroutine:=false }
noncomputable abbrev CX0:CXT:=fun _ _ _ _ _ _=>False
noncomputable abbrev E0:XK:=fun _ _ _=>False
theorem u7 {X:Cx}:Passes CX0 X E0:=fun _ _ _ _ _ _ _ h=>h.elim
structure Fun (K:PySem.W.Frag)(x qual:Str)(st:Stmt)(f:Addr)(fd:FuncData):Prop where
 ex:∃(oc:Value)(od:Option Addr)(kV doc pm:Value)(an:Option Addr)(cdv ct:Value)(osl:Array (Option Value)),
  fd=PySem.W.fnOf x qual (u8 st) (v7 st) (y6 st) .none kV doc pm an cdv ct/\K.lookup f=some ⟨oc,od,.func fd,osl⟩/\PySem.W.codeIn K cdv qual=true
 kp:PySem.W.keepIn K (.ref f)=true
section
variable {P:Program}{w:World}{K:PySem.W.Frag}{mg:Str->Option Value}{base:Heap}
theorem Fun.ok {x qual:Str}{st:Stmt}{f:Addr}{fd:FuncData}{N ps:List Str}{k:Nat}{sp:Sp}(F:Fun K x qual st f fd)(S:FnScope N ps (y6 st))(len:∀ vs H Q E,sp vs H Q E->vs.length=ps.length)
  (i:∀(cdv:Value)(A:Around)(outer:List Env)(s:Shared)(H:Hp)(vs:List V)(Q:VK)(E:XK),Room k (A.deeper (envOfC qual (y6 st) s.heap.objs.size f cdv))->sp vs H Q E->
   ∃ t,PSs (cxOf CX0 P w K mg base N qual (y6 st) f cdv A outer s H E).nox (v7 st) t/\t { nx:=fun _ H'=>Q .non H',rt:=Q } (T4 N vs) H):FnOk P w K mg base CX0 (k+1) f fd ps sp:=by
 obtain⟨oc,od,kV,doc,pm,an,cdv,ct,osl,rfl,G,z⟩:=F.ex
 refine fn_of G z S len fun A outer s H vs Q E I j=>?_
 obtain⟨t,h,q⟩:=i cdv A outer s H vs Q E I j
 exact⟨t,h.nox,q⟩
theorem Fun.binds {x qual:Str}{st:Stmt}{f:Addr}{fd:FuncData}{ps:List Str}(F:Fun K x qual st f fd)
  (h:∀(kV doc pm:Value)(an:Option Addr)(cdv ct:Value)(us:List Value),us.length=ps.length->bindArgs (PySem.W.fnOf x qual (u8 st) (v7 st) (y6 st) .none kV doc pm an cdv ct) ⟨us,[]⟩=pure (ps.zip us)):Binds K fd ps []:=by
 obtain⟨oc,od,kV,doc,pm,an,cdv,ct,osl,rfl,j,i⟩:=F.ex
 exact .all (h kV doc pm an cdv ct)
theorem l5 {x qual:Str}{st:Stmt}{f:Addr}{oc:Value}{od an:Option Addr}{osl:Array (Option Value)}{kV doc pm cdv ct:Value}(l:K.lookup f=some ⟨oc,od,.func (PySem.W.fnOf x qual (u8 st) (v7 st) (y6 st) .none kV doc pm an cdv ct),osl⟩)
  (c:PySem.W.codeIn K cdv qual=true) (k:PySem.W.keepIn K (.ref f)=true):Fun K x qual st f (PySem.W.fnOf x qual (u8 st) (v7 st) (y6 st) .none kV doc pm an cdv ct):=⟨⟨oc,od,kV,doc,pm,an,cdv,ct,osl,rfl,l,c⟩,k⟩
end
section
variable {X:Cx}
theorem pv (i:Nat){x:Str}{pos:Pos}(z:X.N[i]? =some x:=by rfl)(q:Vis X.env.scope x:=by first|exact Or.inl rfl|exact Or.inr (Or.inl rfl)|exact Or.inr (Or.inr rfl))(hd:(x==("__debug__":Str))=false:=by decide)
  (j:(x==("__classdict__":Str))=false:=by decide):PE X (.Name x pos) (tVar i):=pe_var z q hd j
end
theorem iteF {A B:Prop}(h:B):if false=true then A else B:=by
 rw[if_neg Bool.false_ne_true]
 exact h
theorem iteT {A B:Prop}(h:A):if true=true then A else B:=by
 rw[if_pos rfl]
 exact h
noncomputable def Same (H H':Hp):Prop:=∀ b o,H b=some o->H' b=some o
theorem Same.refl (H:Hp):Same H H:=fun _ _ h=>h
theorem Same.trans {H H1 H2:Hp}(a:Same H H1)(b:Same H1 H2):Same H H2:=fun c o h=>b c o (a c o h)
theorem Same.free {H H':Hp}(e:Same H H'){l:Addr}(h:H' l=Option.none):H l=Option.none:=by
 cases q:H l with
 |none=>rfl
 |some o=>
  rw[e l o q]at h
  cases h
theorem Same.seq {K:PySem.W.Frag}{H H':Hp}{a:Addr}{xs:List V}(e:Same H H')(h:SqL K H a xs):SqL K H' a xs:=by
 rcases h with (h|⟨o,h⟩)|h
 .exact .inl (.inl (e _ _ h))
 .exact .inl (.inr ⟨o,e _ _ h⟩)
 .exact .inr h
end L2
namespace L2
open PySem PySem.Spec PyProof.Rows
noncomputable def clOf (cells:List (Str×Addr)):List (Str×NameKind)->List (Str×Addr)->List (Str×Addr)
 |[],cs=>cs
 | (n,k)::r,cs=>if k= .free then (match cells.lookup n with |some c=>clOf cells r ((n,c)::cs)|none=>clOf cells r cs)else clOf cells r cs
theorem S5 {env:Env}:∀(names:List (Str×NameKind))(j:List (Str×Addr)),(∀ x∈names,x.2= .free->∃ c,env.cells.lookup x.1=some c)->
  (forIn names j fun x r=>if (x.2==NameKind.free)=true then do let c ← cellOf env x.1;pure (ForInStep.yield ((x.1,c)::r))else pure (ForInStep.yield r):Sem (List (Str×Addr)))=pure (clOf env.cells names j)
 |[],j,_=>rfl
 | (n,k)::r,j,h=>by
  have z:∀ x∈r,x.2= .free->∃ c,env.cells.lookup x.1=some c:=fun x G=>h x (List.mem_cons_of_mem _ G)
  rw[List.forIn_cons]
  by_cases q:k= .free
  .subst q
   obtain⟨c,I⟩:=h (n,.free) List.mem_cons_self rfl
   have i:env.cells.lookup n=some c:=I
   have e:cellOf env n=pure c:=by unfold cellOf;rw[i]
   simp only[beq_self_eq_true,if_true,e,pure_bind]
   rw[S5 r _ z]
   simp only[clOf,if_true,i]
  .have hb:(k==NameKind.free)=false:=by simpa using q
   simp only[hb,Bool.false_eq_true,if_false,pure_bind]
   rw[S5 r j z]
   simp only[clOf,q,if_false]
theorem J9 {env:Env}{scope:Scope}(h:∀ x∈scope.names,x.2= .free->∃ c,env.cells.lookup x.1=some c):closureFor scope env=pure (clOf env.cells scope.names []):=by
 have q:=S5 (env:=env) scope.names [] h
 simp only[closureFor]
 refine Eq.trans ?_ q
 have e:∀(m:Sem (List (Str×Addr))),(m >>= fun i=>pure i)=m:=fun m=>by simp
 first| (rw[e];rfl)|rfl|simp
theorem M3 {cells:List (Str×Addr)}{x:Str}{c:Addr}:∀(names:List (Str×NameKind))(i:List (Str×Addr)),(∀ y d,i.lookup y=some d->cells.lookup y=some d)->(clOf cells names i).lookup x=some c->cells.lookup x=some c
 |[],i,h,e=>h x c e
 | (n,k)::r,i,h,e=>by
  unfold clOf at e
  split at e
  .split at e
   .rename_i d hd
    refine M3 r _ (fun y d' q=>?_) e
    rw[List.lookup_cons]at q
    split at q
    .rename_i hy
     have:y=n:=by simpa using hy
     subst this
     cases q;exact hd
    .exact h y d' q
   .exact M3 r i h e
  .exact M3 r i h e
theorem P0 {cells:List (Str×Addr)}{x:Str}:∀(names:List (Str×NameKind))(i:List (Str×Addr)),(i.lookup x).isSome=true->((clOf cells names i).lookup x).isSome=true
 |[],i,h=>h
 | (n,k)::r,i,h=>by
  unfold clOf
  split
  .split
   .refine P0 r _ ?_
    rw[List.lookup_cons];split
    .rfl
    .exact h
   .exact P0 r i h
  .exact P0 r i h
theorem P1 {cells:List (Str×Addr)}{x:Str}{c:Addr}(j:cells.lookup x=some c):∀(names:List (Str×NameKind))(i:List (Str×Addr)),(x,NameKind.free)∈names->((clOf cells names i).lookup x).isSome=true
 |[],i,h=>absurd h (by simp)
 | (n,k)::r,i,h=>by
  unfold clOf
  rcases List.mem_cons.mp h with e|h
  .cases e
   rw[if_pos rfl,j]
   refine P0 r _ ?_
   simp[List.lookup_cons]
  .split
   .split
    .exact P1 j r _ h
    .exact P1 j r i h
   .exact P1 j r i h
theorem Z2 {env:Env}:∀{names:List (Str×NameKind)}{x:Str},names.lookup x=some .free->
  (names.map fun(n,k)=>if (k==NameKind.free&&env.scope.kind== .function&&env.kindOf n==some .cell)then (n,NameKind.cell)else (n,k)).lookup x=some .cell\/
  (names.map fun(n,k)=>if (k==NameKind.free&&env.scope.kind== .function&&env.kindOf n==some .cell)then (n,NameKind.cell)else (n,k)).lookup x=some .free
 |[],_,h=>by simp at h
 | (n,k)::r,x,h=>by
  have i:=@Z2 env r x
  show List.lookup x ((if (k==NameKind.free&&env.scope.kind== .function&&env.kindOf n==some .cell)=true then (n,NameKind.cell)else (n,k))::_)=_\/List.lookup x ((if (k==NameKind.free&&env.scope.kind== .function&&env.kindOf n==some .cell)=true then (n,NameKind.cell)else (n,k))::_)=_
  by_cases j:(k==NameKind.free&&env.scope.kind== .function&&env.kindOf n==some .cell)=true
  .rw[if_pos j]
   cases hx:x==n with
   |true=>left;simp only[List.lookup_cons,hx]
   |false=>simp only[List.lookup_cons,hx]at h ⊢;exact i h
  .rw[if_neg j]
   cases hx:x==n with
   |true=>right;simp only[List.lookup_cons,hx]at h ⊢;exact h
   |false=>simp only[List.lookup_cons,hx]at h ⊢;exact i h
theorem W3 {env:Env}:∀{names:List (Str×NameKind)}{x:Str}{k:NameKind},(∀ y∈names,y.2≠ .cell)->
  (names.map fun(n,k)=>if (k==NameKind.free&&env.scope.kind== .function&&env.kindOf n==some .cell)then (n,NameKind.cell)else (n,k)).lookup x=some k->(k= .cell\/k= .free)->(x,NameKind.free)∈names
 |[],_,_,_,h,_=>by simp at h
 | (n,q)::r,x,k,hc0,h,j=>by
  have G:=@W3 env r x k (fun y I=>hc0 y (List.mem_cons_of_mem _ I))
  have h:List.lookup x ((if (q==NameKind.free&&env.scope.kind== .function&&env.kindOf n==some .cell)=true then (n,NameKind.cell)else (n,q))::_)=_:=h
  by_cases z:(q==NameKind.free&&env.scope.kind== .function&&env.kindOf n==some .cell)=true
  .rw[if_pos z]at h
   have J:q= .free:=by
    have:=z;simp only[Bool.and_eq_true]at this;simpa using this.1.1
   cases hx:x==n with
   |true=>
    have i:x=n:=by simpa using hx
    subst i;subst J;exact List.mem_cons_self
   |false=>simp only[List.lookup_cons,hx]at h;exact List.mem_cons_of_mem _ (G h j)
  .rw[if_neg z]at h
   cases hx:x==n with
   |true=>
    have i:x=n:=by simpa using hx
    subst i
    simp only[List.lookup_cons,hx]at h
    have e:q=k:=Option.some.inj h
    subst e
    rcases j with j|j
    .exact absurd j (hc0 _ List.mem_cons_self)
    .subst j;exact List.mem_cons_self
   |false=>simp only[List.lookup_cons,hx]at h;exact List.mem_cons_of_mem _ (G h j)
end L2
namespace L2
open PySem PySem.Spec PyProof.Rows
structure Blk (X:Cx)(sc:Scope)(N:List Str)(src:List (Option Nat)):Prop where
 kind:sc.kind= .function
 nocell:∀ y∈sc.names,y.2≠ .cell
 names:∀ y∈sc.names,y.2= .local->sc.names.lookup y.1=some .local
 free:∀ y∈sc.names,y.2= .free->X.env.kindOf y.1=some .cell\/X.env.kindOf y.1=some .free
 fv:∀(j i:Nat),src[j]? =some (some i)->∃ x,N[j]? =some x/\X.N[i]? =some x/\sc.names.lookup x=some .free
 len:src.length=N.length
noncomputable def blk0 (src:List (Option Nat))(σ:St):St:=src.map fun o=>o.bind fun i=>(σ[i]?).join
noncomputable def c6 (X:Cx)(sc:Scope)(C:Addr)(N:List Str)(fp:List Addr)(s:Shared)(H:Hp):Cx where
 prog:=X.prog
 w:=X.w
 K:=X.K
 mg:=X.mg
 base:=X.base
 A:=X.A
 N:=N
 s₀:=s
 H₀:=H
 env:=compEnvC sc (clOf X.env.cells sc.names []) C X.env
 outer:=X.stack
 stack:=X.stack
 ex:=fp
 fn:=fun _=>false
 calm:=true
 pn:=[]
 xe:=fun _ _=>False
section
variable {X:Cx}{pins:List (Addr×Obj)}{σ:St}{H:Hp}{s:Shared}
theorem Blk.cl {sc:Scope}{N:List Str}{src:List (Option Nat)}(B:Blk X sc N src)(ok:X.Ok):closureFor sc X.env=pure (clOf X.env.cells sc.names []):=
 J9 fun x i j=>ok.has x.1 (B.free x i j)
theorem O9 {sc:Scope}{x:Str}{c:Addr}(h:(clOf X.env.cells sc.names []).lookup x=some c):X.env.cells.lookup x=some c:=
 M3 sc.names [] (fun y d e=>by simp at e) h
theorem blk_start {sc:Scope}{N:List Str}{src:List (Option Nat)}{fp:List Addr}{D C:Addr}{L:Heap}{t:Nat}{m:Str->Option Value}
  (B:Blk X sc N src) (I:Inv X pins σ H s) (hc:X.calm=true) (O:∀ b∈fp,FpOk X pins H b) (a2:∀ b∈fp,∃ o,s.heap.get? b=some o)
  (M:∀ b o,s.heap.get? b=some o->L.get? b=some o) (R:s.heap.objs.size<=D) (a6:L.get? D=some { cls:=.type "list",data:=.seq #[] 0 })
  (hn:L.Ns C m) (S:s.heap.objs.size<=C) (a7:D≠C):
  Inv (c6 X sc C N fp s H) [] (blk0 src σ) (upd H D (.lst [])) { s with heap:=L,toks:=t }:=by
 have a4:H D=none:=I.hok.fresh R
 have a5:H C=none:=I.hok.fresh S
 have new:ObjOk X.prog X.w (upd H D (.lst [])) L D (.lst []):=⟨Nat.zero_le _,[],0,.nil,a6⟩
 have cC:∀ x c,X.env.cells.lookup x=some c->c≠C:=fun x c e z=>by
  obtain⟨v,q⟩:=I.cell x c e
  exact absurd (Nat.lt_of_lt_of_le q.lt (by rw[z];exact S)) (Nat.lt_irrefl _)
 have cD:∀ x c,X.env.cells.lookup x=some c->c≠D:=fun x c e z=>by
  obtain⟨v,q⟩:=I.cell x c e
  exact absurd (Nat.lt_of_lt_of_le q.lt (by rw[z];exact R)) (Nat.lt_irrefl _)
 refine⟨⟨I.ok.mod,?_,I.ok.glob,I.ok.blt,S,fun x y c h1 h2=>?_,fun x G=>?_,fun x c h _=>(by cases h),fun _=>I.ok.hd hc,I.ok.frames,.inl rfl,fun b j=>⟨?_,fun x c e=>?_⟩,I.bs,Nat.le_trans I.ok.bsz I.sz,fun b o e j=>?_,fun b j z=>?_,I.stack,I.stkFree⟩,
  rfl,I.bare,Un.laid M R a4,⟨m,hn,fun i x v e1 e2 e3=>?_⟩,fun x c e=>?_,?_,fun x c e=>?_,fun p hp=>?_,I.hok.laid M R new,?_⟩
 .show (relabel sc X.env).kind=_
  exact B.kind
 .exact I.ok.inj x y c (O9 h1) (O9 h2)
 .have hx':(∃ k,(relabel sc X.env).names.lookup x=some k/\(k= .cell\/k= .free)):=by
   rcases G with G|G
   .exact⟨_,G,.inl rfl⟩
   .exact⟨_,G,.inr rfl⟩
  obtain⟨k,e,a1⟩:=hx'
  have hm:=W3 B.nocell e a1
  obtain⟨c,a3⟩:=I.ok.has x (B.free _ hm rfl)
  exact Option.isSome_iff_exists.mp (P1 a3 sc.names [] hm)
 .obtain⟨o,e⟩:=a2 b j
  exact Nat.ne_of_lt (Nat.lt_of_lt_of_le (Heap.lt_size e) S)
 .exact(O b j).2.2.2.2.1 x c (O9 e)
 .rcases (O b j).2.2.2.1 with z|z
  .exact I.ok.noex b o e z
  .exact absurd (Nat.lt_of_lt_of_le (Heap.lt_size e) (Nat.le_trans I.ok.bsz z)) (Nat.lt_irrefl _)
 .rcases List.mem_cons.mp (I.stkSub b z)with z|z
  .exact(O b j).2.1 z
  .exact(O b j).2.2.1 z
 .have e2':∃ k,src[i]? =some (some k)/\σ[k]? =some (some v):=by
   unfold blk0 at e2
   rw[List.getElem?_map]at e2
   cases q:src[i]? with
   |none=>rw[q]at e2;cases e2
   |some o=>
    rw[q]at e2
    cases o with
    |none=>cases e2
    |some k=>
     refine⟨k,rfl,?_⟩
     have e2:(σ[k]?).join=some v:=Option.some.inj e2
     cases qq:σ[k]? with
     |none=>rw[qq]at e2;cases e2
     |some z=>rw[qq]at e2;exact congrArg some e2
  obtain⟨k,ek,ev⟩:=e2'
  obtain⟨U,n1,n2,Y⟩:=B.fv i k ek
  have:U=x:=by
   have e1:N[i]? =some x:=e1
   rw[n1]at e1;exact Option.some.inj e1
  subst this
  obtain⟨m0,a8,a0⟩:=I.loc
  have J:=B.free (U,.free) (PySem.mem_of_lookup Y) rfl
  obtain⟨u,r,l⟩:=a0 k U v n2 ev (by rcases J with z|z;exact .inr (.inl z);exact .inr (.inr z))
  refine⟨u,r,.inr ⟨?_,?_⟩⟩
  .exact Z2 Y
  .rcases l with⟨l,_⟩|⟨_,c,ec,z⟩
   .rcases J with q|q <;> (rw[q]at l;cases l)
   .obtain⟨c',ec'⟩:=Option.isSome_iff_exists.mp (P1 ec sc.names [] (PySem.mem_of_lookup Y))
    have:=O9 ec'
    rw[ec]at this;cases this
    obtain⟨o,Z,hd⟩:=z
    exact⟨c,ec',o,M c o Z,hd⟩
 .obtain⟨v,o,Z,hd⟩:=I.cell x c (O9 e)
  exact⟨v,o,M c o Z,hd⟩
 .show upd H D _ C=none
  rw[w5 (Ne.symm a7)];exact a5
 .rw[w5 (cD x c (O9 e))];exact I.freeC x c (O9 e)
 .exact absurd (show p∈([]:List (Addr×Obj))++[]from hp) (by simp)
 .show (blk0 src σ).length=N.length
  unfold blk0;rw[List.length_map];exact B.len
end
end L2
namespace L2
open PySem PySem.Spec PyProof.Rows
noncomputable abbrev noE:Value->Shared->Prop:=fun _ _=>False
theorem toE {i:Type}{t:Sem i}{Q j:i->Shared->Prop}{M:Model}{A:Around}{E:Value->Shared->Prop}{s:Shared}(h:wpAny M A t Q noE s)(q:∀ a s,Q a s->j a s):wpAny M A t j E s:=
 wpAny_mono h q fun _ _ x=>x.elim
noncomputable abbrev compTests (ifs:List Expr)(env:Env):Sem Bool:=forIn ifs true fun c r=>if r=true then do let ok ← isTrue c env (eval c env);pure (ForInStep.yield ok)else pure (ForInStep.yield r)
theorem compLoop_any {prog:Program}{w:World}{A:Around}{R:Result->Shared->Prop}{s:Shared}{U i iter:Expr}{O:List Expr}{scope:Scope}{pos:Pos}{it acc:Value}{env:Env}(I:Nat->Shared->Prop)
  (turn:∀ n s,I n s->wpAny (model prog w) A (pyNext it) (fun r z=>match r with
   |none=>R (.ok .next) z
   |some v=>wpAny (model prog w) A (letOwnedTupleGo i it v) (fun _ q=>wpAny (model prog w) A (assign i env v) (fun _ L=>
     wpAny (model prog w) A (compTests O env) (fun ok j=>
      if ok=true then wpAny (model prog w) A (eval U env) (fun x J=>
       wpAny (model prog w) A (call (.builtin "list.append") [acc,x]) (fun _ G=>∃ m,m<n/\I m G) noE J) noE j
      else ∃ m,m<n/\I m j) noE L) noE q) noE z) noE s)
  (n:Nat) (h:I n s):
  codeAny (model prog w) A (.compLoop (.ListComp U [⟨i,iter,O,0⟩] scope pos) 0 it acc env) R s:=by
 refine codeAny_loop rfl I (fun n s hI=>?_) n h
 show wpAny _ A ((compTurn (.ListComp U [⟨i,iter,O,0⟩] scope pos) 0 it acc env).onRaise (fun x=>do noteFrame x env;theTreesLotGoes x)) _ _ s
 refine wpAny_noted ?_
 rw[compTurn_list]
 refine wpAny_bind (wpAny_standAt (wpAny_bind (toE (turn n s hI) (fun r z N=>?_))))
 cases r with
 |none=>exact wpAny_pure N
 |some v=>
  refine wpAny_bind (toE N fun _ q S=>?_)
  refine wpAny_bind (toE S (fun _ L a0=>wpAny_bind (toE a0 (fun ok j M=>?_))))
  cases ok with
  |false=>exact wpAny_pure ⟨rfl,M⟩
  |true=>
   exact wpAny_bind (wpAny_bind (toE M (fun x J Z=>wpAny_bind (toE Z (fun _ G Y=>wpAny_pure (wpAny_pure ⟨rfl,Y⟩))))))
noncomputable def PTs (X:Cx)(ifs:List Expr)(t:TT):Prop:=
 ∀(pins:List (Addr×Obj))(s:Shared)(σ:St)(H:Hp)(Q:Bool->Hp->Prop),Inv X pins σ H s->t σ H Q->wpAny (model X.prog X.w) X.A (compTests ifs X.env) (TP X pins σ Q) X.xe s
noncomputable def tYes:TT:=fun _ H Q=>Q true H
theorem pts_nil {X:Cx}:PTs X [] tYes:=fun pins s σ H Q I h=>wpAny_pure ⟨H,I,h⟩
theorem pts_one {X:Cx}{c:Expr}{t:TT}(h:PT X c t):PTs X [c] t:=fun pins s σ H Q I q=>wpAny_tests_one (h pins s σ H Q I q)
noncomputable def M8 (src:List (Option Nat))(wi:TI)(g:TG)(tc:TT)(te:TE):TE:=fun σ H Q=>wi σ H fun J H1=>∀ D,H1 D=none->∃ W:Nat->Nat->St->Hp->Prop,(∃ m,W 0 m (blk0 src σ) (upd H1 D (.lst [])))/\∀ i m σ' H',W i m σ' H'->
 (J.stop i H'/\Q (.ref D) H')\/(J.go i H'/\∃ N:St->Hp->Prop,(∀ σ2 H2,N σ2 H2->∃ m',m'<m/\W (i+1) m' σ2 H2)/\∀ x H2,J.yld i H' x H2->g x σ' H2 fun σ3 H3=>tc σ3 H3 fun b H4=>
  if b=true then te σ3 H4 fun y H5=>∃ xs,H5 D=some (.lst xs)/\xs.length<sizeLine/\N σ3 (upd H5 D (.lst (xs++[y])))else N σ3 H4)
section
variable {X:Cx}
theorem D9 {sc:Scope}{N:List Str}{src:List (Option Nat)}{tg a6 iter:Expr}{a4:List Expr}{pos:Pos}{g:TG}{tc:TT}{te:TE}(B:Blk X sc N src)(hc:X.calm=true)
  (hg:∀ C fp s H,PG (c6 X sc C N fp s H) tg g) (ht:∀ C fp s H,PTs (c6 X sc C N fp s H) a4 tc) (he:∀ C fp s H,PE (c6 X sc C N fp s H) a6 te)
  {pins:List (Addr×Obj)} {σ:St} {H:Hp} {s:Shared} {it:Addr} {fp:List Addr} {tn:Nat->Heap->Prop} {J:It} {Q:VK} {E:Value->Shared->Prop}
  (I:Inv X pins σ H s) (T:Turn X.prog X.w X.K tg J fp it tn) (st:tn 0 s.heap) (hf:∀ b∈fp,FpOk X pins H b)
  (hW:∀ D,H D=none->∃ W:Nat->Nat->St->Hp->Prop,(∃ m,W 0 m (blk0 src σ) (upd H D (.lst [])))/\∀ i m R H',W i m R H'->
   (J.stop i H'/\Q (.ref D) H')\/(J.go i H'/\∃ N:St->Hp->Prop,(∀ a7 H2,N a7 H2->∃ m',m'<m/\W (i+1) m' a7 H2)/\∀ x H2,J.yld i H' x H2->g x R H2 fun M H3=>tc M H3 fun b H4=>
    if b=true then te M H4 fun y H5=>∃ xs,H5 D=some (.lst xs)/\xs.length<sizeLine/\N M (upd H5 D (.lst (xs++[y])))else N M H4))
  {RR:Value->Addr->Result->Shared->Prop}
  (ai:∀ D C H' s' m',Inv X pins σ H' s'->s'.heap.Ns C m'->H' C=none->s.heap.objs.size<=C->Q (.ref D) H'->RR (.ref D) C (.ok .next) s'):
  wpAny (model X.prog X.w) X.A (newList []) (fun acc S=>wpAny (model X.prog X.w) X.A (newFunctionEnv sc X.env.globals (clOf X.env.cells sc.names []) [] X.env.qual none .none (some X.env)) (fun a1 a8=>
   codeAny (model X.prog X.w) X.A (.compStart (.ListComp a6 [⟨tg,iter,a4,0⟩] sc pos) 0 (.ref it) acc { a1 with scope:=relabel sc X.env }) (RR acc a1.locals) a8) E S) E s:=by
 refine wpAny_newObj_type (wpAny_newFunctionEnv B.nocell (by intro y hy;simp at hy) (fun L O q=>?_) B.kind)
 dsimp only at O q ⊢
 generalize a5:s.heap.push { cls:=.type "list",dict:=none,data:=.seq ([]:List Value).toArray }=H2 at O q ⊢
 have hC:H2.objs.size=s.heap.objs.size+1:=by rw[<-a5,Heap.size_push]
 have ad:s.heap.objs.size≠H2.objs.size:=by rw[hC];exact Nat.ne_of_lt (Nat.lt_succ_self _)
 have a0:s.heap.objs.size<=H2.objs.size:=by rw[hC];exact Nat.le_succ _
 have below:∀ b,b<s.heap.objs.size->b≠H2.objs.size:=fun b G=>by rw[hC];exact Nat.ne_of_lt (Nat.lt_succ_of_lt G)
 have old:∀ b o,s.heap.get? b=some o->L.get? b=some o:=fun b o e=>q.extBut b o (below b (Heap.lt_size e)) (Heap.get?_push_of_some _ (a5 ▸ Heap.get?_push_of_some _ e))
 have ac:L.get? s.heap.objs.size=some { cls:=.type "list",data:=.seq #[] 0 }:=q.extBut _ _ ad (Heap.get?_push_of_some _ (a5 ▸ Heap.get?_push_size _ rfl))
 have ab:∀ b∈fp,∃ o,s.heap.get? b=some o:=fun b G=>by obtain⟨o,e,_⟩:=T.obj _ _ st b G;exact⟨o,e⟩
 have aa:tn 0 L:=T.keep _ _ _ st fun b _ o e=>old b o e
 obtain⟨W,⟨m0,w0⟩,turn⟩:=hW s.heap.objs.size I.fresh
 have I1:=blk_start (t:=s.toks+([]:List (Str×Value)).length) B I hc hf ab old (Nat.le_refl _) ac O a0 ad
 have Y:∀{H':Hp},(∀ b∈fp,H' b=none)->∀ b∈fp,FpOk (c6 X sc H2.objs.size N fp s H) [] H' b:=fun{H'} hn b G=>by
  obtain⟨f0,f1,f2,f3,f4,f5⟩:=hf b G
  refine⟨hn b G,I1.ok.exf b G |>.1,I1.ok.exfs b G,.inl G,fun x c e=>f4 x c (O9 e),fun p hp=>absurd (show p∈([]:List (Addr×Obj))++[]from hp) (by simp)⟩
 have ah:∀ b∈fp,b≠s.heap.objs.size:=fun b G z=>by
  obtain⟨o,e⟩:=ab b G
  exact absurd (Heap.lt_size e) (by rw[z];exact Nat.lt_irrefl _)
 have Z:∀ S:Shared,S={ s with heap:=L,toks:=s.toks+([]:List (Str×Value)).length }->
   codeAny (model X.prog X.w) X.A (.compLoop (.ListComp a6 [⟨tg,iter,a4,0⟩] sc pos) 0 (.ref it) (.ref s.heap.objs.size) (compEnvC sc (clOf X.env.cells sc.names []) H2.objs.size X.env))
    (RR (.ref s.heap.objs.size) H2.objs.size) S:=by
  rintro S rfl
  refine compLoop_any (fun n s'=>∃ i R H',Inv (c6 X sc H2.objs.size N fp s H) [] R H' s'/\tn i s'.heap/\(∀ b∈fp,H' b=none)/\W i n R H') ?_ m0
   ⟨0,_,_,I1,aa,fun b G=>by rw[w5 (ah b G)];exact(hf b G).1,w0⟩
  rintro n s3 ⟨i,M,H3,I3,a9,ae,w3⟩
  rcases turn i n M H3 w3 with⟨stop,qn⟩|⟨go,N',aj,step⟩
  .refine thn (T.done (c6 X sc H2.objs.size N fp s H) rfl rfl rfl rfl i [] s3 M H3 noE I3 (Y ae) a9 stop) fun r s4 ⟨hr,I4⟩=>?_
   subst hr
   obtain⟨m4,ag,_⟩:=id I4.loc
   refine ai _ _ H3 s4 m4 ?_ ag I4.free a0 qn
   exact I.call' (ch:=fp) I4.os I4.base I4.hok I4.bare fun b G=>⟨(hf b G).2.2.2.1,(hf b G).2.1,(hf b G).2.2.2.2.1,(hf b G).2.2.2.2.2⟩
  .refine thn (T.item (c6 X sc H2.objs.size N fp s H) rfl rfl rfl rfl i [] s3 M H3 noE I3 (Y ae) a9 go) fun r s4 ⟨u,hr,h4⟩=>?_
   subst hr
   refine thn h4 fun _ s5 j=>?_
   obtain⟨x,H5,I5,r5,y5,a3,al⟩:=j
   have am:=I5.pinned (Y al) (T.obj _ _ a3)
   have again:∀{s7:Shared}{U:St}{H7:Hp},Inv (c6 X sc H2.objs.size N fp s H) ([]++pinsAt fp s5.heap) U H7 s7->N' U H7->∃ m,m<n/\∃ i R H',Inv (c6 X sc H2.objs.size N fp s H) [] R H' s7/\tn i s7.heap/\(∀ b∈fp,H' b=none)/\W i m R H':=fun{s7 U H7} I7 n7=>by
    obtain⟨m',hm,w7⟩:=aj U H7 n7
    refine⟨m',hm,i+1,U,H7,I7.unpinned,T.keep _ _ _ a3 fun b G o e=>(I7.pin (b,o) (List.mem_append_right _ (List.mem_append_right _ (U6 G e)))).1,fun b G=>?_,w7⟩
    obtain⟨o,e,d⟩:=T.obj _ _ a3 b G
    exact(I7.pin (b,o) (List.mem_append_right _ (List.mem_append_right _ (U6 G e)))).2.1
   refine thn (hg _ _ _ _ _ s5 M H5 x u _ am r5 (step x H5 y5)) fun _ s6 j=>?_
   obtain⟨a2,H6,I6,q6⟩:=j
   refine thn (ht _ _ _ _ _ s6 a2 H6 _ I6 q6) fun ok s7 j=>?_
   obtain⟨H7,I7,q7⟩:=j
   cases ok with
   |false=>
    rw[if_neg Bool.false_ne_true]at q7 ⊢
    exact again I7 q7
   |true=>
    rw[if_pos rfl]at q7 ⊢
    refine thn (he _ _ _ _ _ s7 a2 H7 _ I7 q7) fun y s8 j=>?_
    obtain⟨v8,H8,I8,r8,q8⟩:=j
    obtain⟨xs,ak,af,n8⟩:=q8
    refine thn (Q0 _ s8 a2 H8 (.ref s.heap.objs.size) [v8] (.ref s.heap.objs.size) [y] (fun _ H9=>H9=upd H8 s.heap.objs.size (.lst (xs++[v8]))) I8 rfl (.cons r8 .nil) ⟨_,xs,v8,rfl,rfl,ak,af,rfl⟩) fun _ s9 j=>?_
    obtain⟨v9,H9,I9,r9,q9⟩:=j
    subst q9
    exact again I9 n8
 refine codeAny_compStart_list (Z _ rfl) (toE (T.self X.A 0 { s with heap:=L,toks:=s.toks+([]:List (Str×Value)).length } (fun v s'=>v= .ref it/\s'={ s with heap:=L,toks:=s.toks+([]:List (Str×Value)).length }) noE aa ⟨rfl,rfl⟩) fun v s' j=>?_)
 obtain⟨e1,e2⟩:=j
 subst e1;subst e2
 exact Z _ rfl
theorem Inv.letGo {pins:List (Addr×Obj)}{σ:St}{H:Hp}{s J:Shared}{C:Addr}{h':Heap}(I:Inv X pins σ H s)(i:∃ j H0,Inv X pins j H0 J)(G:J.heap.objs.size<=C)(hn:H C=none)(L:Heap.SameBut C s.heap h'):Inv X pins σ H { s with heap:=h' }:=by
 obtain⟨j,H0,i⟩:=i
 refine I.turned (t':=s.toks) (it:=C) (fun b o M e=>(L.2 b M).trans e) hn (Nat.ne_of_gt (Nat.lt_of_lt_of_le i.lt G)) (.inr (Nat.le_trans i.sz G)) (fun x c e z=>?_) fun p hp z=>?_
 .obtain⟨v,q⟩:=i.cell x c e
  exact absurd (Nat.lt_of_lt_of_le q.lt (by rw[z];exact G)) (Nat.lt_irrefl _)
 .exact absurd (Nat.lt_of_lt_of_le (Heap.lt_size (i.pin p hp).1) (by rw[z];exact G)) (Nat.lt_irrefl _)
theorem pe_comp {sc:Scope}{N:List Str}{src:List (Option Nat)}{tg L iter:Expr}{i:List Expr}{pos:Pos}{R:TI}{g:TG}{tc:TT}{te:TE}(B:Blk X sc N src)(hc:X.calm=true)
  (hi:PI X tg iter R) (hg:∀ C fp s H,PG (c6 X sc C N fp s H) tg g) (ht:∀ C fp s H,PTs (c6 X sc C N fp s H) i tc) (he:∀ C fp s H,PE (c6 X sc C N fp s H) L te)
  (hs:∀ x,foldedSetIterable iter X.env x=pure x:=by intro _;rfl):
  PE X (.ListComp L [⟨tg,iter,i,0⟩] sc pos) (M8 src R g tc te):=by
 intro pins s σ H Q I h
 rw[eval_ListComp]
 refine wpAny_comprehension_free (use:=none) rfl hs (B.cl I.ok) B.kind B.names (wpAny_mono (hi pins s σ H _ I h) (fun xv U z=>wpAny_mono z (fun a0 S j=>?_) fun _ _ e=>e) fun _ _ e=>e)
 obtain⟨it,fp,tn,J,H2,rfl,Y,T,M,f2,hW⟩:=j
 refine D9 (RR:=fun acc C=>compPost (model X.prog X.w) X.A X.xe none (EP X pins σ Q) acc C) (Q:=Q) B hc hg ht he Y T M f2 hW ?_
 intro D C H' s' Z I' hn hC O q
 exact⟨Z,hn,fun a1 G=>⟨.ref D,H',I'.letGo ⟨_,_,Y⟩ O hC G,rfl,q⟩⟩
theorem L7 {i:Nat}{y:Str}{O:Pos}{sc:Scope}{N:List Str}{src:List (Option Nat)}{tg G iter:Expr}{j:List Expr}{pos L:Pos}{wi:TI}{g:TG}{tc:TT}{te:TE}(hN:X.N.Nodup)(a3:X.N[i]? =some y)(hx:Loc X.env.scope y)
  (B:Blk X sc N src) (hc:X.calm=true)
  (hi:PI X tg iter wi) (hg:∀ C fp s H,PG (c6 X sc C N fp s H) tg g) (ht:∀ C fp s H,PTs (c6 X sc C N fp s H) j tc) (he:∀ C fp s H,PE (c6 X sc C N fp s H) G te)
  (a1:swapsWith (.ListComp G [⟨tg,iter,j,0⟩] sc pos) (some (.Name y O)) L.line X.env=pure true:=by rfl)
  (hs:∀ x,foldedSetIterable iter X.env x=pure x:=by intro _;rfl) (hf:X.fn y=true\/X.env.scope.names.lookup y=some .local:=by first|exact .inl rfl|exact .inr rfl|assumption):
  PS X (.Assign [.Name y O] (.ListComp G [⟨tg,iter,j,0⟩] sc pos) L) (tAsg (M8 src wi g tc te) (V7 i)):=by
 intro pins s σ H Dn I h
 rw[exec_Assign_Name_used _ _ _ _ a1]
 refine wpAny_bind (wpAny_standAt (wpAny_bind ?_))
 show wpAny _ _ (do let _ ← comprehension (.ListComp G [⟨tg,iter,j,0⟩] sc pos) sc X.env _ (newList []) false (eval iter X.env) (some (assign (.Name y O) X.env))) _ _ s
 refine wpAny_bind (wpAny_mono (wpAny_comprehension_free (use:=some (assign (.Name y O) X.env)) (Q:=fun _ s'=>SP X pins Dn .next s') rfl hs (B.cl I.ok) B.kind B.names
  (wpAny_mono (hi pins s σ H _ I h) (fun xv a7 S=>wpAny_mono S (fun a9 a6 R=>?_) fun _ _ e=>e) fun _ _ e=>e)) (fun _ s' hq=>wpAny_pure (wpAny_pure hq)) fun _ _ e=>e)
 obtain⟨it,fp,tn,J,H2,rfl,Z,T,a0,f2,hW⟩:=R
 refine D9 (RR:=fun acc C=>compPost (model X.prog X.w) X.A X.xe (some (assign (.Name y O) X.env)) (fun _ s'=>SP X pins Dn .next s') acc C) (Q:=fun x H1=>V7 i x σ H1 Dn.nx) B hc hg ht he Z T a0 f2 hW ?_
 intro D C H' s' m' I' hn hC M q
 show wpAny _ _ (assign (.Name y O) X.env (.ref D)) _ _ _
 refine wpAny_assign_Name (store_ok2 I' hN a3 hx (v:=.ref D) rfl (fun a8 a5 Y=>?_) hf)
 obtain⟨a,a2,ha⟩:=Y
 have a4:C≠a:=fun z=>by
  rcases ha with ha|ha
  .have:=Z.lt;rw[<-ha,<-z]at this
   exact absurd (Nat.lt_of_lt_of_le this M) (Nat.lt_irrefl _)
  .obtain⟨v,qv⟩:=Z.cell y a ha
   exact absurd (Nat.lt_of_lt_of_le qv.lt (by rw[<-z];exact M)) (Nat.lt_irrefl _)
 exact⟨m',hn.sameBut a2 a4,fun aa U=>⟨_,H',a5.letGo ⟨_,_,Z⟩ M hC U,q⟩⟩
end
end L2
namespace L2
open PySem PySem.Spec PyProof.Rows
section
variable {X:Cx}{pins:List (Addr×Obj)}{σ:St}{H:Hp}{s:Shared}{h':Heap}
theorem Inv.turnedL {t':Nat}{fp:List Addr}(I:Inv X pins σ H s)(k:∀ b o,b∉fp->s.heap.get? b=some o->h'.get? b=some o)(j:∀ b∈fp,FpOk X pins H b):Inv X pins σ H { s with heap:=h',toks:=t' }:=by
 have G:∀ b u,H b=some u->b∉fp:=fun b u e z=>by rw[(j b z).1]at e;cases e
 refine I.step (g':=s.gens) (d':=s.drawn) (ch:=fp) (fun b J=>⟨(j b J).2.2.2.1,(j b J).2.1,(j b J).2.2.2.2.1,(j b J).2.2.2.2.2⟩) (fun b o _ _ i e _=>k b o i e) (fun b o _ _ i e _=>⟨o.slots,k b o i e⟩) (fun _ _ _ _ n=>n)
  (fun b o i e=>⟨o,k b o i e⟩) (fun _ _ e=>e) (fun _ _ _ e=>e) (fun b ps e=>⟨#[],by rw[e];simp⟩) (fun m hm=>?_) (fun b u e=>?_) I.bare
 .obtain⟨o,es,ep,ho,r⟩:=hm
  exact⟨o,es,ep,k _ o (fun z=>(j _ z).2.1 rfl) ho,r⟩
 .refine(I.hok b u e).stay (fun c v i q=>k c v ?_ q) (fun _ q=>q) fun _ _ q=>q
  rcases i with z|z
  .rw[z];exact G b u e
  .exact G c _ z
theorem Inv.turnedN {t':Nat}{fp:List Addr}{T:Addr}{o:HO}(I:Inv X pins σ H s)(k:∀ b o,b∉fp->s.heap.get? b=some o->h'.get? b=some o)(G:∀ b∈fp,FpOk X pins H b)(L:s.heap.objs.size<=T)
  (new:ObjOk X.prog X.w (upd H T o) h' T o):Inv X pins σ (upd H T o) { s with heap:=h',toks:=t' }:=by
 have hn:H T=none:=I.hok.fresh L
 have ne:∀ b u,s.heap.get? b=some u->b≠T:=fun b u e z=>absurd (Nat.lt_of_lt_of_le (Heap.lt_size e) (by rw[z];exact L)) (Nat.lt_irrefl _)
 have J:∀ b u,H b=some u->b∉fp:=fun b u e z=>by rw[(G b z).1]at e;cases e
 refine I.step (g':=s.gens) (d':=s.drawn) (ch:=fp) (fun b j=>⟨(G b j).2.2.2.1,(G b j).2.1,(G b j).2.2.2.2.1,(G b j).2.2.2.2.2⟩) (fun b o _ _ i e _=>k b o i e) (fun b o _ _ i e _=>⟨o.slots,k b o i e⟩) (fun b o _ e n=>by rw[w5 (ne b o e)];exact n)
  (fun b o i e=>⟨o,k b o i e⟩) (fun b xs e=>by rw[w5 (m7 e hn)];exact e) (fun b _ _ e=>by rw[w5 (m7 e hn)];exact e) (fun b ps e=>⟨#[],by rw[w5 (m7 e hn),e];simp⟩) (fun m hm=>?_) (fun b u e=>?_) I.bare
 .obtain⟨o,es,ep,ho,r⟩:=hm
  exact⟨o,es,ep,k _ o (fun z=>(G _ z).2.1 rfl) ho,r⟩
 .by_cases j:b=T
  .subst j;rw[x8]at e;cases e;exact new
  .rw[w5 j]at e
   refine(I.hok b u e).stay (fun c v i q=>k c v ?_ q) (fun c q=>by rw[w5 (m7 q hn)];exact q) fun c xs q=>by rw[w5 (m7 q hn)];exact q
   rcases i with z|z
   .rw[z];exact J b u e
   .exact J c _ z
end
noncomputable def Itz2 (K:PySem.W.Frag)(l1 l2:Addr):It:=
 ⟨fun i H=>∃ xs ys x y,SqL K H l1 xs/\SqL K H l2 ys/\xs[i]? =some x/\ys[i]? =some y,
  fun i H v H'=>∃ t x y,v= .ref t/\H t=none/\H'=upd H t (.tup [x,y])/\(∀ xs,SqL K H l1 xs->xs[i]? =some x)/\(∀ ys,SqL K H l2 ys->ys[i]? =some y),
  fun i H=>∃ xs ys,SqL K H l1 xs/\SqL K H l2 ys/\(xs.length<=i\/ys.length<=i)⟩
structure Zip2 (z TI TO i1 i2:Addr):Prop where
 TIz:TI≠z
 TOz:TO≠z
 i1z:i1≠z
 i2z:i2≠z
 TITO:TI≠TO
 TIi1:TI≠i1
 TIi2:TI≠i2
 TOi1:TO≠i1
 TOi2:TO≠i2
 i12:i1≠i2
theorem Y6 {h:Heap}{a b:Addr}{o u:Obj}(e:h.get? a=some o)(i:h.get? b=some u)(d:o.cls≠u.cls):a≠b:=by
 intro z;subst z;rw[e]at i;exact d (congrArg Obj.cls (Option.some.inj i))
theorem k9 {n:String}(h:("list"==n)=false):Value.type "list"≠Value.type n:=fun e=>by cases e;revert h;decide
theorem zip2_new (n:Nat):Zip2 (n+4) (n+2) (n+3) n (n+1):=by
 constructor <;> (show ((_:Nat)≠_);omega)
theorem E5 {h:Heap}{z TI TO i1 i2 l1 l2:Addr}{J I:Array Value}{a b f0:Value}{Z Y:Nat}(D:Zip2 z TI TO i1 i2)(M:IsZip h z TI TO f0)(L:IsPair h TO a b)(h1:h.IsListIter i1 l1 Z)(h2:h.IsListIter i2 l2 Y)
  (U:h.IsList l1 J) (p2:h.IsList l2 I):ZipApart z TI TO i1 i2 l1 l2:=by
 obtain⟨o1,e1,O,_⟩:=h1
 obtain⟨o2,e2,N,_⟩:=h2
 obtain⟨S,j,G,_⟩:=U
 obtain⟨R,i,q,_⟩:=p2
 exact⟨D.TIz,D.TOz,D.i1z,D.i2z,D.TITO,D.TIi1,D.TIi2,D.TOi1,D.TOi2,D.i12,
  Y6 j M (by rw[G];exact k9 (by decide)),Y6 j L (by rw[G];exact k9 (by decide)),Y6 j e1 (by rw[G,O];decide),Y6 j e2 (by rw[G,N];decide),
  Y6 i M (by rw[q];exact k9 (by decide)),Y6 i L (by rw[q];exact k9 (by decide)),Y6 i e1 (by rw[q,O];decide),Y6 i e2 (by rw[q,N];decide)⟩
theorem turn_zip2 {P:Program}{w:World}{K:PySem.W.Frag}{es:List Expr}{tk:Nat}{tp:Pos}(z TI TO i1 i2 l1 l2:Addr)(D:Zip2 z TI TO i1 i2):
  Turn P w K (.Tuple es tk tp) (Itz2 K l1 l2) [z,TI,TO,i1,i2] z
   (fun i h=>IsZip h z TI TO .none/\IsPair h TI (.ref i1) (.ref i2)/\(∃ a b,IsPair h TO a b)/\h.IsListIter i1 l1 i/\h.IsListIter i2 l2 i) where
 mem:=by simp
 obj:=fun i h st b hb=>by
  obtain⟨N,J,⟨a,c,j⟩,⟨o1,e1,_,d1⟩,⟨o2,e2,_,d2⟩⟩:=st
  simp only[List.mem_cons,List.not_mem_nil,or_false]at hb
  rcases hb with rfl|rfl|rfl|rfl|rfl
  .exact⟨_,N,fun v q=>by cases q⟩
  .exact⟨_,J,fun v q=>by cases q⟩
  .exact⟨_,j,fun v q=>by cases q⟩
  .exact⟨_,e1,fun v q=>by rw[d1]at q;cases q⟩
  .exact⟨_,e2,fun v q=>by rw[d2]at q;cases q⟩
 keep:=fun i h h' st k=>by
  obtain⟨N,J,⟨a,c,j⟩,h1,h2⟩:=st
  exact⟨k z (by simp) _ N,k TI (by simp) _ J,⟨a,c,k TO (by simp) _ j⟩,h1.at fun o e=>k i1 (by simp) o e,h2.at fun o e=>k i2 (by simp) o e⟩
 item:=by
  intro X hP hw hK L i pins s σ H E I hf st hg
  subst hP hw hK
  obtain⟨xs,ys,x,y,R,O,hx,hy⟩:=hg
  obtain⟨a8,U,p1,_⟩:=I.list R
  obtain⟨a7,S,p2,_⟩:=I.list O
  obtain⟨u,hu,ru⟩:=U.get hx
  obtain⟨v,hv,ab⟩:=S.get hy
  obtain⟨N,J,⟨a,b,j⟩,h1,h2⟩:=st
  have Z:=E5 D N j h1 h2 p1.isList p2.isList
  refine wpAny_pyNext_zip_item Z N J j h1 h2 p1.isList p2.isList (x:=u) (y:=v) (by simpa using hu) (by simpa using hv) fun h' a1 a2 a3 a4 a5 a6 hk=>?_
  refine⟨_,rfl,?_⟩
  refine wpAny_letOwnedTupleGo_zip a1 fun a0 aa G=>?_
  have a9:z<s.heap.objs.size:=Heap.lt_size N
  have kk:∀ c o,c∉[z,TI,TO,i1,i2]->s.heap.get? c=some o->a0.get? c=some o:=fun c o L e=>by
   simp only[List.mem_cons,List.not_mem_nil,or_false,not_or]at L
   exact G.extBut _ _ L.1 (hk c o L.1 L.2.2.1 L.2.2.2.1 L.2.2.2.2 e)
  have hT:a0.get? s.heap.objs.size=some { cls:=.type "tuple",data:=.seq #[u,v] }:=G.extBut _ _ (Nat.ne_of_gt a9) a5
  have I2:Inv X pins σ (upd H s.heap.objs.size (.tup [x,y])) { s with heap:=a0,toks:=s.toks }:=
   I.turnedN (T:=s.heap.objs.size) (o:=.tup [x,y]) kk hf (Nat.le_refl _) ⟨by show 2<=sizeLine;decide,[u,v],.cons ru (.cons ab .nil),⟨_,hT,rfl,_,rfl⟩⟩
  refine⟨.ref s.heap.objs.size,_,I2,rfl,⟨_,x,y,rfl,I.fresh,rfl,fun zs M=>by rw[I.list_inj M R];exact hx,fun zs M=>by rw[I.list_inj M O];exact hy⟩,
   ⟨aa,G.extBut _ _ D.TIz (hk _ _ D.TIz D.TITO D.TIi1 D.TIi2 J),⟨_,_,G.extBut _ _ D.TOz a2⟩,a3.extBut G.extBut D.i1z,a4.extBut G.extBut D.i2z⟩,fun c Y=>?_⟩
  have ac:c<s.heap.objs.size:=by
   obtain⟨o1,e1,_⟩:=h1
   obtain⟨o2,e2,_⟩:=h2
   simp only[List.mem_cons,List.not_mem_nil,or_false]at Y
   rcases Y with rfl|rfl|rfl|rfl|rfl
   .exact a9
   .exact Heap.lt_size J
   .exact Heap.lt_size j
   .exact Heap.lt_size e1
   .exact Heap.lt_size e2
  rw[w5 (Nat.ne_of_lt ac)]
  exact(hf c Y).1
 done:=by
  intro X hP hw hK L i pins s σ H E I hf st hg
  subst hP hw hK
  obtain⟨xs,ys,R,O,hl⟩:=hg
  obtain⟨a8,U,p1,_⟩:=I.list R
  obtain⟨a7,S,p2,_⟩:=I.list O
  obtain⟨N,J,⟨a,b,j⟩,h1,h2⟩:=st
  have Z:=E5 D N j h1 h2 p1.isList p2.isList
  have ae:=U.length
  have ad:=S.length
  refine wpAny_pyNext_zip_end (I.ok.hd L) Z N J j h1 h2 p1.isList p2.isList (hl.elim (fun q=>.inl (by simp;omega)) fun q=>.inr (by simp;omega)) fun h' hk=>⟨rfl,?_⟩
  exact I.turnedL (t':=s.toks) (fun c o L e=>by
   simp only[List.mem_cons,List.not_mem_nil,or_false,not_or]at L
   exact hk c o L.1 L.2.2.1 L.2.2.2.1 L.2.2.2.2 e) hf
 self:=fun _ _ _ _ _ st h=>wpAny_pyIter_zip st.1 h
section
variable {X:Cx}
noncomputable def iZip2 (K:PySem.W.Frag)(ta:TA):TI:=fun σ H R=>ta σ H fun vs H1=>∃ a b xs ys,vs=[.ref a,.ref b]/\SqL K H1 a xs/\SqL K H1 b ys/\R (Itz2 K a b) H1
theorem pi_zip2 {a b:Expr}{ta:TA}{p pos:Pos}{es:List Expr}{tk:Nat}{tp:Pos}(hg:Gl X "zip")(hm:X.mg "zip"=none)(ha:PA X [a,b] ta)(hs:starEach [a,b] X.env=[(false,eval a X.env),(false,eval b X.env)]:=by rfl)(i:starEach [b] X.env=[(false,eval b X.env)]:=by rfl):
  PI X (.Tuple es tk tp) (.Call (.Name "zip" p) [a,b] [] pos) (iZip2 X.K ta):=by
 intro pins s σ H R I h
 refine Call_ (X2 I hg hm boot_zip (PyProof.Rows.callWith_type1 (thn (ha pos pins s σ H _ I h) fun us s1 j=>?_) (by rw[hs,i]) (by rw[i];rfl)))
 obtain⟨vs,H1,G,r1,J⟩:=j
 obtain⟨l1,l2,xs,ys,e,J,q2,q⟩:=J
 subst e
 cases r1 with
 |cons r rr=>
  cases rr with
  |cons r' rr=>
   cases rr
   cases r
   cases r'
   obtain⟨U,a1,p1,_⟩:=G.list J
   obtain⟨S,a0,p2,_⟩:=G.list q2
   refine call_zip_2 p1.isList p2.isList fun h' Y O N M L a2 hk=>?_
   have I2:Inv X pins σ H1 { s1 with heap:=h',toks:=s1.toks }:=G.kept hk
   refine wpAny_pyIter_zip (s:={ s1 with heap:=h' }) Y ?_
   refine⟨_,[s1.heap.objs.size+4,s1.heap.objs.size+2,s1.heap.objs.size+3,s1.heap.objs.size,s1.heap.objs.size+1],_,_,H1,rfl,I2,turn_zip2 _ _ _ _ _ l1 l2 (zip2_new _),
    ⟨Y,O,⟨_,_,N⟩,M,L⟩,fun b Z=>?_,q⟩
   have z:s1.heap.objs.size<=b:=by
    simp only[List.mem_cons,List.not_mem_nil,or_false]at Z
    rcases Z with rfl|rfl|rfl|rfl|rfl
    .exact Nat.le_add_right _ 4
    .exact Nat.le_add_right _ 2
    .exact Nat.le_add_right _ 3
    .exact Nat.le_refl _
    .exact Nat.le_add_right _ 1
   exact G.fpOk z (G.hok.fresh z)
end
end L2
namespace L2
open PySem PySem.Spec PyProof.Rows
noncomputable abbrev n6 (h:Heap)(T:Addr)(a b c:Value):Prop:=h.get? T=some { cls:=.type "tuple",data:=.seq #[a,b,c] }
structure Zip3 (z TI TO i1 i2 i3:Addr):Prop where
 TIz:TI≠z
 TOz:TO≠z
 i1z:i1≠z
 i2z:i2≠z
 i3z:i3≠z
 TITO:TI≠TO
 TIi1:TI≠i1
 TIi2:TI≠i2
 TIi3:TI≠i3
 TOi1:TO≠i1
 TOi2:TO≠i2
 TOi3:TO≠i3
 i12:i1≠i2
 i13:i1≠i3
 i23:i2≠i3
theorem zip3_new (n:Nat):Zip3 (n+5) (n+3) (n+4) n (n+1) (n+2):=by
 constructor <;> (show ((_:Nat)≠_);omega)
structure Apart3 (z TO i1 i2 i3 l:Addr):Prop where
 lz:l≠z
 lTO:l≠TO
 l1:l≠i1
 l2:l≠i2
 l3:l≠i3
section
variable {prog:Program}{w:World}{A:Around}{E:Value->Shared->Prop}{s:Shared}
theorem j3 {T:Addr}{a b c x:Value}{k:Nat}{Q:Unit->Shared->Prop}(i:n6 s.heap T a b c)
  (h:∀ h',h'.get? T=some { cls:=.type "tuple",data:=.seq ((#[a,b,c]:Array Value).setIfInBounds k x) }->Heap.SameBut T s.heap h'->Q () { s with heap:=h' }):
  wpAny (model prog w) A (updateSeq T (·.setIfInBounds k x)) Q E s:=by
 refine wpAny_updateSeq i rfl (h _ ?_ (Heap.SameBut.update ..))
 rw[Heap.get?_update_self _ i rfl]
 simp[Obj.mapSeq]
theorem G5 {z TI TO i1 i2 i3 l1 l2 l3:Addr}{k1 k2 k3:Nat}{xs ys zs:Array Value}{x y v a b c:Value}{Q:Value->Shared->Prop}(D:Zip3 z TI TO i1 i2 i3)(A1:Apart3 z TO i1 i2 i3 l1)(A2:Apart3 z TO i1 i2 i3 l2)(A3:Apart3 z TO i1 i2 i3 l3)
  (hz:IsZip s.heap z TI TO .none) (as:n6 s.heap TI (.ref i1) (.ref i2) (.ref i3)) (ar:n6 s.heap TO a b c)
  (h1:s.heap.IsListIter i1 l1 k1) (h2:s.heap.IsListIter i2 l2 k2) (h3:s.heap.IsListIter i3 l3 k3) (aq:s.heap.IsList l1 xs) (ap:s.heap.IsList l2 ys) (ao:s.heap.IsList l3 zs) (hx:xs[k1]? =some x) (hy:ys[k2]? =some y) (hv:zs[k3]? =some v)
  (hQ:∀ h',IsZip h' z TI TO (rawInt s.heap.objs.size)->n6 h' TO x y v->h'.IsListIter i1 l1 (k1+1)->h'.IsListIter i2 l2 (k2+1)->h'.IsListIter i3 l3 (k3+1)->n6 h' s.heap.objs.size x y v->h'.objs.size=s.heap.objs.size+1->
   (∀ c o,c≠z->c≠TO->c≠i1->c≠i2->c≠i3->s.heap.get? c=some o->h'.get? c=some o)->Q (.ref s.heap.objs.size) { s with heap:=h' }):
  wpAny (model prog w) A (Builtin.«zip.__next__» ⟨[.ref z],[]⟩) (fun fin s'=>∃ v,fin= .done (.ret v)/\Q v s') E s:=by
 show wpAny _ _ (field (.ref z) 2 >>= _) _ _ _
 refine wpAny_bind (wpAny_field hz rfl (x:=.bool false) rfl ?_)
 show wpAny _ _ (field (.ref z) 3 >>= _) _ _ _
 refine wpAny_bind (wpAny_field hz rfl (x:=.ref TI) rfl ?_)
 refine wpAny_bind (wpAny_seqItems as rfl ?_)
 show wpAny _ _ (Builtin.SmallTypes.ownedTupleIsFree (.ref z) >>= _) _ _ _
 refine wpAny_bind ?_
 unfold Builtin.SmallTypes.ownedTupleIsFree
 refine wpAny_bind (wpAny_field hz rfl (x:=.none) rfl (wpAny_pure ?_))
 simp only[if_true]
 refine wpAny_bind (wpAny_rule ?_)
 refine wpAny_bind (wpAny_field hz rfl (x:=.ref TO) rfl ?_)
 refine wpAny_bind (wpAny_setField_rec hz (by simp) fun al Y j=>?_)
 replace Y:IsZip al z TI TO .ellipsis:=Y
 refine wpAny_bind ?_
 simp only[List.zipIdx_cons,List.zipIdx_nil,List.forIn_cons,List.forIn_nil]
 refine wpAny_bind (wpAny_bind (wpAny_onRaise ?_))
 show wpAny _ _ (Builtin.SmallTypes.nextOf (.ref i1) >>= _) _ _ _
 refine wpAny_bind (wpAny_nextOf_list_item (h1.extBut j.extBut D.i1z) (aq.extBut j.extBut A1.lz) hx fun ak ae G=>wpAny_pure ?_)
 have a3:n6 ak TO a b c:=G.extBut _ _ D.TOi1 (j.extBut _ _ D.TOz ar)
 refine wpAny_bind (wpAny_seqItems a3 rfl ?_)
 refine wpAny_bind (j3 a3 fun aj S q=>?_)
 replace S:n6 aj TO x b c:=S
 refine wpAny_bind (wpAny_letGo (wpAny_pure ?_))
 refine wpAny_bind (wpAny_bind (wpAny_onRaise ?_))
 show wpAny _ _ (Builtin.SmallTypes.nextOf (.ref i2) >>= _) _ _ _
 refine wpAny_bind (wpAny_nextOf_list_item (((h2.extBut j.extBut D.i2z).extBut G.extBut D.i12.symm).extBut q.extBut D.TOi2.symm)
  (((ap.extBut j.extBut A2.lz).extBut G.extBut A2.l1).extBut q.extBut A2.lTO) hy fun ai ac J=>wpAny_pure ?_)
 have a2:n6 ai TO x b c:=J.extBut _ _ D.TOi2 S
 refine wpAny_bind (wpAny_seqItems a2 rfl ?_)
 refine wpAny_bind (j3 a2 fun ah R I=>?_)
 replace R:n6 ah TO x y c:=R
 refine wpAny_bind (wpAny_letGo (wpAny_pure ?_))
 refine wpAny_bind (wpAny_bind (wpAny_onRaise ?_))
 show wpAny _ _ (Builtin.SmallTypes.nextOf (.ref i3) >>= _) _ _ _
 refine wpAny_bind (wpAny_nextOf_list_item (((((h3.extBut j.extBut D.i3z).extBut G.extBut D.i13.symm).extBut q.extBut D.TOi3.symm).extBut J.extBut D.i23.symm).extBut I.extBut D.TOi3.symm)
  (((((ao.extBut j.extBut A3.lz).extBut G.extBut A3.l1).extBut q.extBut A3.lTO).extBut J.extBut A3.l2).extBut I.extBut A3.lTO) hv fun ag aa M=>wpAny_pure ?_)
 have a1:n6 ag TO x y c:=M.extBut _ _ D.TOi3 R
 refine wpAny_bind (wpAny_seqItems a1 rfl ?_)
 refine wpAny_bind (j3 a1 fun i N L=>?_)
 replace N:n6 i TO x y v:=N
 refine wpAny_bind (wpAny_letGo (wpAny_pure (wpAny_pure ?_)))
 refine wpAny_bind (wpAny_seqItems N rfl ?_)
 refine wpAny_bind (wpAny_newTuple ?_)
 have an:i.objs.size=s.heap.objs.size:=by rw[L.1,M.1,I.1,J.1,q.1,G.1,j.1]
 have a4:IsZip i z TI TO .ellipsis:=L.extBut _ _ D.TOz.symm (M.extBut _ _ D.i3z.symm (I.extBut _ _ D.TOz.symm (J.extBut _ _ D.i2z.symm (q.extBut _ _ D.TOz.symm (G.extBut _ _ D.i1z.symm Y)))))
 have a8:∀ c o,c≠z->c≠TO->c≠i1->c≠i2->c≠i3->s.heap.get? c=some o->i.get? c=some o:=fun c o c1 c2 c3 c4 c5 e=>
  L.extBut _ _ c2 (M.extBut _ _ c5 (I.extBut _ _ c2 (J.extBut _ _ c4 (q.extBut _ _ c2 (G.extBut _ _ c3 (j.extBut _ _ c1 e))))))
 have ad:i.IsListIter i1 l1 (k1+1):=((((ae.extBut q.extBut D.TOi1.symm).extBut J.extBut D.i12).extBut I.extBut D.TOi1.symm).extBut M.extBut D.i13).extBut L.extBut D.TOi1.symm
 have ab:i.IsListIter i2 l2 (k2+1):=((ac.extBut I.extBut D.TOi2.symm).extBut M.extBut D.i23).extBut L.extBut D.TOi2.symm
 have a9:i.IsListIter i3 l3 (k3+1):=aa.extBut L.extBut D.TOi3.symm
 have a6:z<i.objs.size:=Heap.lt_size a4
 show wpAny _ _ (Builtin.SmallTypes.ownedTupleHandOut (.ref z) (.ref i.objs.size) >>= _) _ _ _
 refine wpAny_bind ?_
 unfold Builtin.SmallTypes.ownedTupleHandOut
 have a7:IsZip (i.push { cls:=.type "tuple",data:=.seq #[x,y,v] }) z TI TO .ellipsis:=Heap.get?_push_of_some _ a4
 refine wpAny_bind (wpAny_setField_rec a7 (by simp) fun af U Z=>?_)
 replace U:IsZip af z TI TO (rawInt i.objs.size):=U
 refine wpAny_setField_rec U (by simp) fun h₀ O a0=>?_
 replace O:IsZip h₀ z TI TO (rawInt i.objs.size):=O
 have up:∀ c o,c≠z->i.get? c=some o->h₀.get? c=some o:=fun c o c1 e=>a0.extBut _ _ c1 (Z.extBut _ _ c1 (Heap.get?_push_of_some _ e))
 have a5:n6 h₀ i.objs.size x y v:=a0.extBut _ _ (Nat.ne_of_gt a6) (Z.extBut _ _ (Nat.ne_of_gt a6) (Heap.get?_push_size _ rfl))
 have am:h₀.objs.size=i.objs.size+1:=by rw[a0.1,Z.1,Heap.size_push]
 rw[an]at O a5 am
 refine wpAny_pure ⟨_,rfl,?_⟩
 show Q (.ref i.objs.size) _
 rw[an]
 exact hQ h₀ O (up _ _ D.TOz N) (ad.at fun o e=>up _ o D.i1z e) (ab.at fun o e=>up _ o D.i2z e) (a9.at fun o e=>up _ o D.i3z e) a5 am fun c o c1 c2 c3 c4 c5 e=>up c o c1 (a8 c o c1 c2 c3 c4 c5 e)
theorem zip3_next_end {z TI TO i1 i2 i3 l1 l2 l3:Addr}{k1 k2 k3:Nat}{xs ys zs:Array Value}{a b c:Value}{Q:Fin->Shared->Prop}(hh:A.handled=none)(D:Zip3 z TI TO i1 i2 i3)(A1:Apart3 z TO i1 i2 i3 l1)(A2:Apart3 z TO i1 i2 i3 l2)(A3:Apart3 z TO i1 i2 i3 l3)
  (hz:IsZip s.heap z TI TO .none) (af:n6 s.heap TI (.ref i1) (.ref i2) (.ref i3)) (ae:n6 s.heap TO a b c)
  (h1:s.heap.IsListIter i1 l1 k1) (h2:s.heap.IsListIter i2 l2 k2) (h3:s.heap.IsListIter i3 l3 k3) (ab:s.heap.IsList l1 xs) (aa:s.heap.IsList l2 ys) (ad:s.heap.IsList l3 zs) (ac:xs[k1]? =none\/ys[k2]? =none\/zs[k3]? =none)
  (hE:∀ h' e,(∀ c o,c≠z->c≠TO->c≠i1->c≠i2->c≠i3->s.heap.get? c=some o->h'.get? c=some o)->(∃ o,h'.get? e=some o/\o.cls= .type "StopIteration")->E (.ref e) { s with heap:=h' }):
  wpAny (model prog w) A (Builtin.«zip.__next__» ⟨[.ref z],[]⟩) Q E s:=by
 show wpAny _ _ (field (.ref z) 2 >>= _) _ _ _
 refine wpAny_bind (wpAny_field hz rfl (x:=.bool false) rfl ?_)
 show wpAny _ _ (field (.ref z) 3 >>= _) _ _ _
 refine wpAny_bind (wpAny_field hz rfl (x:=.ref TI) rfl ?_)
 refine wpAny_bind (wpAny_seqItems af rfl ?_)
 show wpAny _ _ (Builtin.SmallTypes.ownedTupleIsFree (.ref z) >>= _) _ _ _
 refine wpAny_bind ?_
 unfold Builtin.SmallTypes.ownedTupleIsFree
 refine wpAny_bind (wpAny_field hz rfl (x:=.none) rfl (wpAny_pure ?_))
 simp only[if_true]
 refine wpAny_bind (wpAny_rule ?_)
 refine wpAny_bind (wpAny_field hz rfl (x:=.ref TO) rfl ?_)
 refine wpAny_bind (wpAny_setField_rec hz (by simp) fun a9 J j=>?_)
 replace J:IsZip a9 z TI TO .ellipsis:=J
 refine wpAny_bind ?_
 simp only[List.zipIdx_cons,List.zipIdx_nil,List.forIn_cons,List.forIn_nil]
 refine wpAny_bind (wpAny_bind (wpAny_onRaise ?_))
 show wpAny _ _ (Builtin.SmallTypes.nextOf (.ref i1) >>= _) _ _ _
 cases hx:xs[k1]? with
 |none=>
  refine wpAny_bind (wpAny_nextOf_list_end hh (h1.extBut j.extBut D.i1z) (ab.extBut j.extBut A1.lz) hx fun a0 e i he=>?_)
  obtain⟨oe,L,N⟩:=he
  have a3:IsZip a0 z TI TO .ellipsis:=i _ _ D.i1z.symm J
  have a6:e≠z:=fun x=>by subst x;rw[a3]at L;cases L;simp at N
  refine wpAny_setField_rec a3 (by simp) fun Z _ q=>hE Z e (fun c o c1 _ c3 _ _ x=>q.extBut _ _ c1 (i _ _ c3 (j.extBut _ _ c1 x))) ⟨oe,q.extBut _ _ a6 L,N⟩
 |some x=>
  refine wpAny_bind (wpAny_nextOf_list_item (h1.extBut j.extBut D.i1z) (ab.extBut j.extBut A1.lz) hx fun a0 ah i=>wpAny_pure ?_)
  have S:n6 a0 TO a b c:=i.extBut _ _ D.TOi1 (j.extBut _ _ D.TOz ae)
  refine wpAny_bind (wpAny_seqItems S rfl ?_)
  refine wpAny_bind (j3 S fun Z M q=>?_)
  replace M:n6 Z TO x b c:=M
  refine wpAny_bind (wpAny_letGo (wpAny_pure ?_))
  refine wpAny_bind (wpAny_bind (wpAny_onRaise ?_))
  show wpAny _ _ (Builtin.SmallTypes.nextOf (.ref i2) >>= _) _ _ _
  cases hy:ys[k2]? with
  |none=>
   refine wpAny_bind (wpAny_nextOf_list_end hh (((h2.extBut j.extBut D.i2z).extBut i.extBut D.i12.symm).extBut q.extBut D.TOi2.symm)
    (((aa.extBut j.extBut A2.lz).extBut i.extBut A2.l1).extBut q.extBut A2.lTO) hy fun Y e G he=>?_)
   obtain⟨oe,L,N⟩:=he
   have a2:IsZip Y z TI TO .ellipsis:=G _ _ D.i2z.symm (q.extBut _ _ D.TOz.symm (i.extBut _ _ D.i1z.symm J))
   have a6:e≠z:=fun x=>by subst x;rw[a2]at L;cases L;simp at N
   refine wpAny_setField_rec a2 (by simp) fun U _ I=>hE U e (fun c o c1 c2 c3 c4 _ x=>I.extBut _ _ c1 (G _ _ c4 (q.extBut _ _ c2 (i.extBut _ _ c3 (j.extBut _ _ c1 x))))) ⟨oe,I.extBut _ _ a6 L,N⟩
  |some y=>
   have hv:zs[k3]? =none:=by
    rcases ac with h|h|h
    .rw[hx]at h;cases h
    .rw[hy]at h;cases h
    .exact h
   refine wpAny_bind (wpAny_nextOf_list_item (((h2.extBut j.extBut D.i2z).extBut i.extBut D.i12.symm).extBut q.extBut D.TOi2.symm)
    (((aa.extBut j.extBut A2.lz).extBut i.extBut A2.l1).extBut q.extBut A2.lTO) hy fun Y ag G=>wpAny_pure ?_)
   have R:n6 Y TO x b c:=G.extBut _ _ D.TOi2 M
   refine wpAny_bind (wpAny_seqItems R rfl ?_)
   refine wpAny_bind (j3 R fun U O I=>?_)
   replace O:n6 U TO x y c:=O
   refine wpAny_bind (wpAny_letGo (wpAny_pure ?_))
   refine wpAny_bind (wpAny_bind (wpAny_onRaise ?_))
   show wpAny _ _ (Builtin.SmallTypes.nextOf (.ref i3) >>= _) _ _ _
   refine wpAny_bind (wpAny_nextOf_list_end hh (((((h3.extBut j.extBut D.i3z).extBut i.extBut D.i13.symm).extBut q.extBut D.TOi3.symm).extBut G.extBut D.i23.symm).extBut I.extBut D.TOi3.symm)
    (((((ad.extBut j.extBut A3.lz).extBut i.extBut A3.l1).extBut q.extBut A3.lTO).extBut G.extBut A3.l2).extBut I.extBut A3.lTO) hv fun a8 e a5 he=>?_)
   obtain⟨oe,L,N⟩:=he
   have a1:IsZip a8 z TI TO .ellipsis:=a5 _ _ D.i3z.symm (I.extBut _ _ D.TOz.symm (G.extBut _ _ D.i2z.symm (q.extBut _ _ D.TOz.symm (i.extBut _ _ D.i1z.symm J))))
   have a6:e≠z:=fun x=>by subst x;rw[a1]at L;cases L;simp at N
   refine wpAny_setField_rec a1 (by simp) fun a7 _ a4=>hE a7 e (fun c o c1 c2 c3 c4 c5 x=>a4.extBut _ _ c1 (a5 _ _ c5 (I.extBut _ _ c2 (G.extBut _ _ c4 (q.extBut _ _ c2 (i.extBut _ _ c3 (j.extBut _ _ c1 x))))))) ⟨oe,a4.extBut _ _ a6 L,N⟩
theorem N3 {z TI TO i1 i2 i3 l1 l2 l3:Addr}{q j i:Nat}{xs ys zs:Array Value}{x y v a b c:Value}{Q:Option Value->Shared->Prop}(D:Zip3 z TI TO i1 i2 i3)(A1:Apart3 z TO i1 i2 i3 l1)(A2:Apart3 z TO i1 i2 i3 l2)(A3:Apart3 z TO i1 i2 i3 l3)
  (N:IsZip s.heap z TI TO .none) (M:n6 s.heap TI (.ref i1) (.ref i2) (.ref i3)) (L:n6 s.heap TO a b c)
  (h1:s.heap.IsListIter i1 l1 q) (h2:s.heap.IsListIter i2 l2 j) (Z:s.heap.IsListIter i3 l3 i) (J:s.heap.IsList l1 xs) (I:s.heap.IsList l2 ys) (G:s.heap.IsList l3 zs) (S:xs[q]? =some x) (R:ys[j]? =some y) (U:zs[i]? =some v)
  (Y:∀ h',IsZip h' z TI TO (rawInt s.heap.objs.size)->n6 h' TO x y v->h'.IsListIter i1 l1 (q+1)->h'.IsListIter i2 l2 (j+1)->h'.IsListIter i3 l3 (i+1)->n6 h' s.heap.objs.size x y v->h'.objs.size=s.heap.objs.size+1->
   (∀ c o,c≠z->c≠TO->c≠i1->c≠i2->c≠i3->s.heap.get? c=some o->h'.get? c=some o)->Q (some (.ref s.heap.objs.size)) { s with heap:=h' }):
  wpAny (model prog w) A (pyNext (.ref z)) Q E s:=by
 have O:s.TypeIs (.ref z) "zip":=⟨_,N,rfl⟩
 unfold pyNext
 exact wpAny_bind (wpAny_attempt (wpAny_callSpecial?_slot (name:=Str.ofString "__next__") O F.slot_zip_next
  (wpAny_call_entry F.slot_zip_next O F.entry_zip_next
   (G5 D A1 A2 A3 N M L h1 h2 Z J I G S R U fun h' a1 a2 a3 a4 a5 a6 a7 a8=>wpAny_pure (Y h' a1 a2 a3 a4 a5 a6 a7 a8)) (F.args_zip_next_1 _))))
theorem L4 {z TI TO i1 i2 i3 l1 l2 l3:Addr}{N M L:Nat}{xs ys zs:Array Value}{a b c:Value}{Q:Option Value->Shared->Prop}(hh:A.handled=none)(D:Zip3 z TI TO i1 i2 i3)(A1:Apart3 z TO i1 i2 i3 l1)(A2:Apart3 z TO i1 i2 i3 l2)(A3:Apart3 z TO i1 i2 i3 l3)
  (O:IsZip s.heap z TI TO .none) (J:n6 s.heap TI (.ref i1) (.ref i2) (.ref i3)) (I:n6 s.heap TO a b c)
  (h1:s.heap.IsListIter i1 l1 N) (h2:s.heap.IsListIter i2 l2 M) (h3:s.heap.IsListIter i3 l3 L) (G:s.heap.IsList l1 xs) (q:s.heap.IsList l2 ys) (j:s.heap.IsList l3 zs) (i:xs[N]? =none\/ys[M]? =none\/zs[L]? =none)
  (hQ:∀ h',(∀ c o,c≠z->c≠TO->c≠i1->c≠i2->c≠i3->s.heap.get? c=some o->h'.get? c=some o)->Q none { s with heap:=h' }):wpAny (model prog w) A (pyNext (.ref z)) Q E s:=by
 have R:s.TypeIs (.ref z) "zip":=⟨_,O,rfl⟩
 unfold pyNext
 refine wpAny_bind (wpAny_attempt (wpAny_callSpecial?_slot (name:=Str.ofString "__next__") R F.slot_zip_next
  (wpAny_call_entry F.slot_zip_next R F.entry_zip_next (zip3_next_end hh D A1 A2 A3 O J I h1 h2 h3 G q j i fun h' e U Y=>?_) (F.args_zip_next_1 _))))
 obtain⟨o,S,Z⟩:=Y
 refine wpAny_bind (wpAny_isInstance (T:="StopIteration") (b:=true) ⟨o,S,Z⟩ isSubtype_stop ?_)
 exact wpAny_pure (hQ _ U)
noncomputable abbrev z3H1 (h:Heap)(l1:Addr):Heap:=h.push { cls:=.type "list_iterator",data:=.fields #[.ref l1,.int 0 0] }
noncomputable abbrev z3H2 (h:Heap)(l1 l2:Addr):Heap:=(z3H1 h l1).push { cls:=.type "list_iterator",data:=.fields #[.ref l2,.int 0 0] }
noncomputable abbrev z3H3 (h:Heap)(l1 l2 l3:Addr):Heap:=(z3H2 h l1 l2).push { cls:=.type "list_iterator",data:=.fields #[.ref l3,.int 0 0] }
noncomputable abbrev z3H4 (h:Heap)(l1 l2 l3:Addr):Heap:=(z3H3 h l1 l2 l3).push { cls:=.type "tuple",data:=.seq #[.ref h.objs.size,.ref (z3H1 h l1).objs.size,.ref (z3H2 h l1 l2).objs.size] }
noncomputable abbrev z3H5 (h:Heap)(l1 l2 l3:Addr):Heap:=(z3H4 h l1 l2 l3).push { cls:=.type "tuple",data:=.seq #[.none,.none,.none] }
noncomputable abbrev z3H6 (h:Heap)(l1 l2 l3:Addr):Heap:=(z3H5 h l1 l2 l3).push { cls:=.type "zip",data:=.fields #[.none,.bool false,.bool false,.ref (z3H3 h l1 l2 l3).objs.size,.ref (z3H4 h l1 l2 l3).objs.size] }
theorem G7 (a b c:Value):checkTypeCall "zip" ⟨[a,b,c],[]⟩=pure ():=by kernel_rfl
theorem newCall_zip_3 (a b c:Value):checkBuiltinCall "zip.__new__" ⟨[.type "zip",a,b,c],[]⟩=pure ():=by kernel_rfl
theorem args_init_4 (a b c d:Value):argsOk "object.__init__" ⟨[a,b,c,d],[]⟩:=by
 unfold argsOk;rw[signature?_of (id:="object.__init__") (n:=['_','_','t','i','n','i','_','_']) (o:=['t','c','e','j','b','o']) (by kernel_rfl) F.owner_object];kernel_rfl
set_option maxHeartbeats 8000000 in
theorem F8 (l1 l2 l3:Addr)(xs ys zs:Array Value):
  Meets (Builtin.«zip.__new__» ⟨[.type "zip",.ref l1,.ref l2,.ref l3],[]⟩) (fun _ R s=>s.heap.IsList l1 xs/\s.heap.IsList l2 ys/\s.heap.IsList l3 zs/\
   R (.ok (.ret (.ref (z3H5 s.heap l1 l2 l3).objs.size))) { s with heap:=z3H6 s.heap l1 l2 l3 }):=
 .of_wp fun prog w A R s h=>by
  obtain⟨hp,g,d,tk,os⟩:=s;obtain⟨q,j,i,h⟩:=h
  have J:=sub_zip
  have I:Heap.IsList (Shared.heap ⟨hp,g,d,tk,os⟩) l1 xs:=q
  have G:Heap.IsList (Shared.heap ⟨hp.push { cls:=.type "list_iterator",data:=.fields #[.ref l1,.int 0 0] },g,d,tk,os⟩) l2 ys:=Heap.IsList.push j _
  have z:Heap.IsList (Shared.heap ⟨(hp.push { cls:=.type "list_iterator",data:=.fields #[.ref l1,.int 0 0] }).push { cls:=.type "list_iterator",data:=.fields #[.ref l2,.int 0 0] },g,d,tk,os⟩) l3 zs:=Heap.IsList.push (Heap.IsList.push i _) _
  wp_walk using wpAny_pyIter_list I,wpAny_pyIter_list G,wpAny_pyIter_list z
  exact⟨_,rfl,h⟩
theorem call_zip_3 {l1 l2 l3:Addr}{xs ys zs:Array Value}{Q:Value->Shared->Prop}(J:s.heap.IsList l1 xs)(I:s.heap.IsList l2 ys)(G:s.heap.IsList l3 zs)
  (h:∀ h',IsZip h' (s.heap.objs.size+5) (s.heap.objs.size+3) (s.heap.objs.size+4) .none->n6 h' (s.heap.objs.size+3) (.ref s.heap.objs.size) (.ref (s.heap.objs.size+1)) (.ref (s.heap.objs.size+2))->
   n6 h' (s.heap.objs.size+4) .none .none .none->h'.IsListIter s.heap.objs.size l1 0->h'.IsListIter (s.heap.objs.size+1) l2 0->h'.IsListIter (s.heap.objs.size+2) l3 0->
   (∀ c o,s.heap.get? c=some o->h'.get? c=some o)->Q (.ref (s.heap.objs.size+5)) { s with heap:=h' }):
  wpAny (model prog w) A (call (.type "zip") [.ref l1,.ref l2,.ref l3]) Q E s:=by
 refine callType_new F.called_zip (by decide) (G7 _ _ _) (newCall_zip_3 _ _ _) (fun obj=>args_init_4 obj _ _ _) F.entry_zip_new
  (F8 l1 l2 l3 xs ys zs) ⟨J,I,G,?_⟩
 have z:(z3H1 s.heap l1).objs.size=s.heap.objs.size+1:=Heap.size_push ..
 have q:(z3H2 s.heap l1 l2).objs.size=s.heap.objs.size+2:=by rw[Heap.size_push,z]
 have j:(z3H3 s.heap l1 l2 l3).objs.size=s.heap.objs.size+3:=by rw[Heap.size_push,q]
 have i:(z3H4 s.heap l1 l2 l3).objs.size=s.heap.objs.size+4:=by rw[Heap.size_push,j]
 have M:(z3H5 s.heap l1 l2 l3).objs.size=s.heap.objs.size+5:=by rw[Heap.size_push,i]
 have L:(z3H6 s.heap l1 l2 l3).get? (z3H5 s.heap l1 l2 l3).objs.size=some _:=Heap.get?_push_size _ rfl
 have N:(z3H6 s.heap l1 l2 l3).get? (z3H4 s.heap l1 l2 l3).objs.size=some _:=Heap.get?_push_of_some _ (Heap.get?_push_size _ rfl)
 have O:(z3H6 s.heap l1 l2 l3).get? (z3H3 s.heap l1 l2 l3).objs.size=some _:=Heap.get?_push_of_some _ (Heap.get?_push_of_some _ (Heap.get?_push_size _ rfl))
 have R:(z3H6 s.heap l1 l2 l3).get? (z3H2 s.heap l1 l2).objs.size=some _:=Heap.get?_push_of_some _ (Heap.get?_push_of_some _ (Heap.get?_push_of_some _ (Heap.get?_push_size _ rfl)))
 have S:(z3H6 s.heap l1 l2 l3).get? (z3H1 s.heap l1).objs.size=some _:=Heap.get?_push_of_some _ (Heap.get?_push_of_some _ (Heap.get?_push_of_some _ (Heap.get?_push_of_some _ (Heap.get?_push_size _ rfl))))
 have U:(z3H6 s.heap l1 l2 l3).get? s.heap.objs.size=some _:=Heap.get?_push_of_some _ (Heap.get?_push_of_some _ (Heap.get?_push_of_some _ (Heap.get?_push_of_some _ (Heap.get?_push_of_some _ (Heap.get?_push_size _ rfl)))))
 show _/\_
 rw[j,i,M]at L
 rw[i]at N
 rw[z,q,j]at O
 rw[q]at R
 rw[z]at S
 rw[M]
 exact⟨⟨_,L,rfl⟩,h _ L O N ⟨_,U,rfl,rfl⟩ ⟨_,S,rfl,rfl⟩ ⟨_,R,rfl,rfl⟩ fun c o x=>
  Heap.get?_push_of_some _ (Heap.get?_push_of_some _ (Heap.get?_push_of_some _ (Heap.get?_push_of_some _ (Heap.get?_push_of_some _ (Heap.get?_push_of_some _ x)))))⟩
end
noncomputable def Itz3 (K:PySem.W.Frag)(l1 l2 l3:Addr):It:=
 ⟨fun i H=>∃ xs ys zs x y z,SqL K H l1 xs/\SqL K H l2 ys/\SqL K H l3 zs/\xs[i]? =some x/\ys[i]? =some y/\zs[i]? =some z,
  fun i H v H'=>∃ t x y z,v= .ref t/\H t=none/\H'=upd H t (.tup [x,y,z])/\(∀ xs,SqL K H l1 xs->xs[i]? =some x)/\(∀ ys,SqL K H l2 ys->ys[i]? =some y)/\(∀ zs,SqL K H l3 zs->zs[i]? =some z),
  fun i H=>∃ xs ys zs,SqL K H l1 xs/\SqL K H l2 ys/\SqL K H l3 zs/\(xs.length<=i\/ys.length<=i\/zs.length<=i)⟩
theorem X3 {h:Heap}{z TI TO i1 i2 i3 l m1 m2 G:Addr}{its:Array Value}{a b c O:Value}{L J I:Nat}(M:IsZip h z TI TO O)(q:n6 h TO a b c)(h1:h.IsListIter i1 m1 L)(h2:h.IsListIter i2 m2 J)(N:h.IsListIter i3 G I)
  (p:h.IsList l its):Apart3 z TO i1 i2 i3 l:=by
 obtain⟨o1,e1,U,_⟩:=h1
 obtain⟨Z,e2,S,_⟩:=h2
 obtain⟨Y,e3,R,_⟩:=N
 obtain⟨po,i,j,_⟩:=p
 exact⟨Y6 i M (by rw[j];exact k9 (by decide)),Y6 i q (by rw[j];exact k9 (by decide)),Y6 i e1 (by rw[j,U];exact k9 (by decide)),Y6 i e2 (by rw[j,S];exact k9 (by decide)),Y6 i e3 (by rw[j,R];exact k9 (by decide))⟩
theorem turn_zip3 {P:Program}{w:World}{K:PySem.W.Frag}{es:List Expr}{tk:Nat}{tp:Pos}(z TI TO i1 i2 i3 l1 l2 l3:Addr)(D:Zip3 z TI TO i1 i2 i3):
  Turn P w K (.Tuple es tk tp) (Itz3 K l1 l2 l3) [z,TI,TO,i1,i2,i3] z
   (fun i h=>IsZip h z TI TO .none/\n6 h TI (.ref i1) (.ref i2) (.ref i3)/\(∃ a b c,n6 h TO a b c)/\h.IsListIter i1 l1 i/\h.IsListIter i2 l2 i/\h.IsListIter i3 l3 i) where
 mem:=by simp
 obj:=fun i h st b hb=>by
  obtain⟨N,J,⟨a,c,d,j⟩,⟨o1,e1,_,d1⟩,⟨o2,e2,_,d2⟩,⟨o3,e3,_,d3⟩⟩:=st
  simp only[List.mem_cons,List.not_mem_nil,or_false]at hb
  rcases hb with rfl|rfl|rfl|rfl|rfl|rfl
  .exact⟨_,N,fun v q=>by cases q⟩
  .exact⟨_,J,fun v q=>by cases q⟩
  .exact⟨_,j,fun v q=>by cases q⟩
  .exact⟨_,e1,fun v q=>by rw[d1]at q;cases q⟩
  .exact⟨_,e2,fun v q=>by rw[d2]at q;cases q⟩
  .exact⟨_,e3,fun v q=>by rw[d3]at q;cases q⟩
 keep:=fun i h h' st k=>by
  obtain⟨N,J,⟨a,c,d,j⟩,h1,h2,O⟩:=st
  exact⟨k z (by simp) _ N,k TI (by simp) _ J,⟨a,c,d,k TO (by simp) _ j⟩,h1.at fun o e=>k i1 (by simp) o e,h2.at fun o e=>k i2 (by simp) o e,O.at fun o e=>k i3 (by simp) o e⟩
 item:=by
  intro X hP hw hK M i pins s σ H E I hf st hg
  subst hP hw hK
  obtain⟨xs,ys,zs,x,y,v,U,S,R,hx,hy,hv⟩:=hg
  obtain⟨ab,a0,p1,_⟩:=I.list U
  obtain⟨aa,Z,p2,_⟩:=I.list S
  obtain⟨a9,Y,p3,_⟩:=I.list R
  obtain⟨u1,aj,ag⟩:=a0.get hx
  obtain⟨u2,ai,af⟩:=Z.get hy
  obtain⟨u3,ah,ae⟩:=Y.get hv
  obtain⟨N,J,⟨a,b,c,j⟩,h1,h2,O⟩:=st
  refine N3 D (X3 N j h1 h2 O p1.isList) (X3 N j h1 h2 O p2.isList) (X3 N j h1 h2 O p3.isList) N J j h1 h2 O p1.isList p2.isList p3.isList (x:=u1) (y:=u2) (v:=u3) (by simpa using aj) (by simpa using ai) (by simpa using ah) fun h' a1 a2 a3 a4 al a5 a6 hk=>?_
  refine⟨_,rfl,?_⟩
  refine wpAny_letOwnedTupleGo_zip a1 fun a8 ad G=>?_
  have ac:z<s.heap.objs.size:=Heap.lt_size N
  have kk:∀ c o,c∉[z,TI,TO,i1,i2,i3]->s.heap.get? c=some o->a8.get? c=some o:=fun c o M e=>by
   simp only[List.mem_cons,List.not_mem_nil,or_false,not_or]at M
   exact G.extBut _ _ M.1 (hk c o M.1 M.2.2.1 M.2.2.2.1 M.2.2.2.2.1 M.2.2.2.2.2 e)
  have hT:a8.get? s.heap.objs.size=some { cls:=.type "tuple",data:=.seq #[u1,u2,u3] }:=G.extBut _ _ (Nat.ne_of_gt ac) a5
  have I2:Inv X pins σ (upd H s.heap.objs.size (.tup [x,y,v])) { s with heap:=a8,toks:=s.toks }:=
   I.turnedN (T:=s.heap.objs.size) (o:=.tup [x,y,v]) kk hf (Nat.le_refl _) ⟨by show 3<=sizeLine;decide,[u1,u2,u3],.cons ag (.cons af (.cons ae .nil)),⟨_,hT,rfl,_,rfl⟩⟩
  refine⟨.ref s.heap.objs.size,_,I2,rfl,⟨_,x,y,v,rfl,I.fresh,rfl,fun zs L=>by rw[I.list_inj L U];exact hx,fun zs L=>by rw[I.list_inj L S];exact hy,fun zs L=>by rw[I.list_inj L R];exact hv⟩,
   ⟨ad,G.extBut _ _ D.TIz (hk _ _ D.TIz D.TITO D.TIi1 D.TIi2 D.TIi3 J),⟨_,_,_,G.extBut _ _ D.TOz a2⟩,a3.extBut G.extBut D.i1z,a4.extBut G.extBut D.i2z,al.extBut G.extBut D.i3z⟩,fun c a7=>?_⟩
  have ak:c<s.heap.objs.size:=by
   obtain⟨o1,e1,_⟩:=h1
   obtain⟨o2,e2,_⟩:=h2
   obtain⟨o3,e3,_⟩:=O
   simp only[List.mem_cons,List.not_mem_nil,or_false]at a7
   rcases a7 with rfl|rfl|rfl|rfl|rfl|rfl
   .exact ac
   .exact Heap.lt_size J
   .exact Heap.lt_size j
   .exact Heap.lt_size e1
   .exact Heap.lt_size e2
   .exact Heap.lt_size e3
  rw[w5 (Nat.ne_of_lt ak)]
  exact(hf c a7).1
 done:=by
  intro X hP hw hK M i pins s σ H E I hf st hg
  subst hP hw hK
  obtain⟨xs,ys,zs,U,S,R,hl⟩:=hg
  obtain⟨ab,a0,p1,_⟩:=I.list U
  obtain⟨aa,Z,p2,_⟩:=I.list S
  obtain⟨a9,Y,p3,_⟩:=I.list R
  obtain⟨N,J,⟨a,b,c,j⟩,h1,h2,O⟩:=st
  have ao:=a0.length
  have an:=Z.length
  have am:=Y.length
  refine L4 (I.ok.hd M) D (X3 N j h1 h2 O p1.isList) (X3 N j h1 h2 O p2.isList) (X3 N j h1 h2 O p3.isList) N J j h1 h2 O p1.isList p2.isList p3.isList ?_ fun h' hk=>⟨rfl,?_⟩
  .rcases hl with q|q|q
   .exact .inl (by simp;omega)
   .exact .inr (.inl (by simp;omega))
   .exact .inr (.inr (by simp;omega))
  exact I.turnedL (t':=s.toks) (fun c o M e=>by
   simp only[List.mem_cons,List.not_mem_nil,or_false,not_or]at M
   exact hk c o M.1 M.2.2.1 M.2.2.2.1 M.2.2.2.2.1 M.2.2.2.2.2 e) hf
 self:=fun _ _ _ _ _ st h=>wpAny_pyIter_zip st.1 h
section
variable {X:Cx}
noncomputable def iZip3 (K:PySem.W.Frag)(ta:TA):TI:=fun σ H R=>ta σ H fun vs H1=>∃ a b c xs ys zs,vs=[.ref a,.ref b,.ref c]/\SqL K H1 a xs/\SqL K H1 b ys/\SqL K H1 c zs/\R (Itz3 K a b c) H1
theorem pi_zip3 {a b c:Expr}{ta:TA}{p pos:Pos}{es:List Expr}{tk:Nat}{tp:Pos}(hg:Gl X "zip")(hm:X.mg "zip"=none)(ha:PA X [a,b,c] ta)(hs:starEach [a,b,c] X.env=(false,eval a X.env)::starEach [b,c] X.env:=by rfl)(L:∀ pos,((backTo pos (starEach [b,c] X.env)).any fun x=>x.1)=false:=by intro _;rfl):
  PI X (.Tuple es tk tp) (.Call (.Name "zip" p) [a,b,c] [] pos) (iZip3 X.K ta):=by
 intro pins s σ H R I h
 refine Call_ (X2 I hg hm boot_zip (PyProof.Rows.callWith_type1 (thn (ha pos pins s σ H _ I h) fun us s1 j=>?_) hs (L _)))
 obtain⟨vs,H1,i,r1,J⟩:=j
 obtain⟨l1,l2,l3,xs,ys,zs,e,J,q2,q3,q⟩:=J
 subst e
 cases r1 with
 |cons r rr=>
  cases rr with
  |cons r' rr=>
   cases rr with
   |cons G rr=>
   cases rr
   cases r
   cases r'
   cases G
   obtain⟨a0,a3,p1,_⟩:=i.list J
   obtain⟨Z,a2,p2,_⟩:=i.list q2
   obtain⟨Y,a1,p3,_⟩:=i.list q3
   refine call_zip_3 p1.isList p2.isList p3.isList fun h' hz U S O N M hk=>?_
   have I2:Inv X pins σ H1 { s1 with heap:=h',toks:=s1.toks }:=i.kept hk
   refine wpAny_pyIter_zip (s:={ s1 with heap:=h' }) hz ?_
   refine⟨_,[s1.heap.objs.size+5,s1.heap.objs.size+3,s1.heap.objs.size+4,s1.heap.objs.size,s1.heap.objs.size+1,s1.heap.objs.size+2],_,_,H1,rfl,I2,turn_zip3 _ _ _ _ _ _ l1 l2 l3 (zip3_new _),
    ⟨hz,U,⟨_,_,_,S⟩,O,N,M⟩,fun b hb=>?_,q⟩
   have z:s1.heap.objs.size<=b:=by
    simp only[List.mem_cons,List.not_mem_nil,or_false]at hb
    rcases hb with rfl|rfl|rfl|rfl|rfl|rfl
    .exact Nat.le_add_right _ 5
    .exact Nat.le_add_right _ 3
    .exact Nat.le_add_right _ 4
    .exact Nat.le_refl _
    .exact Nat.le_add_right _ 1
    .exact Nat.le_add_right _ 2
   exact i.fpOk z (i.hok.fresh z)
end
noncomputable def Ite (K:PySem.W.Frag)(l:Addr):It:=
 ⟨fun i H=>∃ xs x,SqL K H l xs/\xs[i]? =some x,
  fun i H v H'=>∃ t x,v= .ref t/\H t=none/\H'=upd H t (.tup [.int i,x])/\(∀ xs,SqL K H l xs->xs[i]? =some x),
  fun i H=>∃ xs,SqL K H l xs/\xs.length<=i⟩
theorem turn_enum {P:Program}{w:World}{K:PySem.W.Frag}{es:List Expr}{tk:Nat}{tp:Pos}(e it l:Addr)(U:e≠it):
  Turn P w K (.Tuple es tk tp) (Ite K l) [e,it] e (fun i h=>(∃ old,IsEnum h e it (i:Nat) old)/\h.IsListIter it l i) where
 mem:=by simp
 obj:=fun i h st b hb=>by
  obtain⟨⟨old,z⟩,⟨o1,e1,_,d1⟩⟩:=st
  simp only[List.mem_cons,List.not_mem_nil,or_false]at hb
  rcases hb with rfl|rfl
  .exact⟨_,z,fun v q=>by cases q⟩
  .exact⟨_,e1,fun v q=>by rw[d1]at q;cases q⟩
 keep:=fun i h h' st k=>by
  obtain⟨⟨old,z⟩,h1⟩:=st
  exact⟨⟨old,k e (by simp) _ z⟩,h1.at fun o q=>k it (by simp) o q⟩
 item:=by
  intro X hP hw hK G i pins s σ H E I hf st hg
  subst hP hw hK
  obtain⟨xs,x,J,hx⟩:=hg
  obtain⟨O,L,p1,_⟩:=I.list J
  obtain⟨u1,a5,a0⟩:=L.get hx
  obtain⟨⟨old,z⟩,h1⟩:=st
  refine wpAny_pyNext_enum_item z h1 p1.isList (x:=u1) (by simpa using a5) U fun h' a1 a2 a3 a4 hk=>?_
  refine⟨_,rfl,?_⟩
  refine wpAny_letOwnedTupleGo_enum a1 fun N Y j=>?_
  have S:e<s.heap.objs.size:=Heap.lt_size z
  have kk:∀ c o,c∉[e,it]->s.heap.get? c=some o->N.get? c=some o:=fun c o G q=>by
   simp only[List.mem_cons,List.not_mem_nil,or_false,not_or]at G
   exact j.extBut _ _ G.1 (hk c o G.1 G.2 q)
  have Z:N.get? s.heap.objs.size=some { cls:=.type "tuple",data:=.seq #[.int i s.toks,u1] }:=j.extBut _ _ (Nat.ne_of_gt S) a3
  have I2:Inv X pins σ (upd H s.heap.objs.size (.tup [.int i,x])) { s with heap:=N,toks:=s.toks+1 }:=
   I.turnedN (T:=s.heap.objs.size) (o:=.tup [.int i,x]) kk hf (Nat.le_refl _) ⟨by show 2<=sizeLine;decide,[.int i s.toks,u1],.cons ⟨_,rfl⟩ (.cons a0 .nil),⟨_,Z,rfl,_,rfl⟩⟩
  refine⟨.ref s.heap.objs.size,_,I2,rfl,⟨_,x,rfl,I.fresh,rfl,fun zs R=>by rw[I.list_inj R J];exact hx⟩,
   ⟨⟨_,Y⟩,a2.extBut j.extBut U.symm⟩,fun c M=>?_⟩
  have a6:c<s.heap.objs.size:=by
   obtain⟨o1,e1,_⟩:=h1
   simp only[List.mem_cons,List.not_mem_nil,or_false]at M
   rcases M with rfl|rfl
   .exact S
   .exact Heap.lt_size e1
  rw[w5 (Nat.ne_of_lt a6)]
  exact(hf c M).1
 done:=by
  intro X hP hw hK G i pins s σ H E I hf st hg
  subst hP hw hK
  obtain⟨xs,J,hl⟩:=hg
  obtain⟨O,L,p1,_⟩:=I.list J
  obtain⟨⟨old,z⟩,h1⟩:=st
  have a7:=L.length
  refine wpAny_pyNext_enum_end (I.ok.hd G) z h1 p1.isList (by simp;omega) fun h' hk=>⟨rfl,?_⟩
  exact I.turnedL (t':=s.toks) (fun c o G q=>by
   simp only[List.mem_cons,List.not_mem_nil,or_false,not_or]at G
   exact hk c o G.2 q) hf
 self:=fun A i s Q E st h=>by
  obtain⟨⟨old,z⟩,h1⟩:=st
  have Z:s.TypeIs (.ref e) "enumerate":=⟨_,z,rfl⟩
  refine wpAny_pyIter_slot Z F.slot_enumerate_iter (wpAny_call_entry F.slot_enumerate_iter Z F.entry_enumerate_iter ?_ (F.args_enumerate_iter_1 _))
  show wpAny _ _ (ret (.ref e)) _ _ s
  exact wpAny_pure ⟨_,rfl,"enumerate",_,Z,F.slot_enumerate_next.lookup,h⟩
section
variable {X:Cx}
noncomputable def iEnum (K:PySem.W.Frag)(ta:TA):TI:=fun σ H R=>ta σ H fun vs H1=>∃ a xs,vs=[.ref a]/\SqL K H1 a xs/\R (Ite K a) H1
theorem pi_enum {a:Expr}{ta:TA}{p pos:Pos}{es:List Expr}{tk:Nat}{tp:Pos}(hg:Gl X "enumerate")(hm:X.mg "enumerate"=none)(ha:PA X [a] ta)(Y:starEach [a] X.env=[(false,eval a X.env)]:=by rfl):
  PI X (.Tuple es tk tp) (.Call (.Name "enumerate" p) [a] [] pos) (iEnum X.K ta):=by
 intro pins s σ H R I h
 refine Call_ (X2 I hg hm boot_enumerate (PyProof.Rows.callWith_type1 (thn (ha pos pins s σ H _ I h) fun us s1 i=>?_) Y rfl))
 obtain⟨vs,H1,G,r1,J⟩:=i
 obtain⟨l,xs,e,J,q⟩:=J
 subst e
 cases r1 with
 |cons r rr=>
  cases rr
  cases r
  obtain⟨M,O,S,_⟩:=G.list J
  refine call_enumerate_list S.isList fun h' L j U Z=>?_
  have I2:Inv X pins σ H1 { s1 with heap:=h',toks:=s1.toks }:=G.kept Z
  have hT:({ s1 with heap:=h' }:Shared).TypeIs (.ref (s1.heap.objs.size+1)) "enumerate":=⟨_,L,rfl⟩
  refine(turn_enum (P:=X.prog) (w:=X.w) (K:=X.K) (es:=es) (tk:=tk) (tp:=tp) (s1.heap.objs.size+1) s1.heap.objs.size l (Nat.ne_of_gt (Nat.lt_succ_self _))).self X.A 0 { s1 with heap:=h' } _ _ ⟨⟨_,L⟩,j⟩ ?_
  refine⟨_,[s1.heap.objs.size+1,s1.heap.objs.size],_,_,H1,rfl,I2,turn_enum _ _ l (Nat.ne_of_gt (Nat.lt_succ_self _)),⟨⟨_,L⟩,j⟩,fun b N=>?_,q⟩
  have z:s1.heap.objs.size<=b:=by
   simp only[List.mem_cons,List.not_mem_nil,or_false]at N
   rcases N with rfl|rfl
   .exact Nat.le_succ _
   .exact Nat.le_refl _
  exact G.fpOk z (G.hok.fresh z)
end
end L2
namespace L2
open PySem PySem.Spec PyProof.Rows
noncomputable def XAt (a C:Addr)(h:Heap):Prop:=∃ o vs,h.get? a=some o/\o.cls= .ref C/\o.data= .fields vs
noncomputable def xName (K:PySem.W.Frag)(C:Addr):Option Str:=match K.lookup C with
 |some ⟨_,_,.cls cd,_⟩=>some cd.name
 |_=>none
inductive D where
 |non|bl (b:Bool)|int (i:Int)|str (x:Str)|lst (ds:List D)|tup (ds:List D)|exc (c:Str)
mutual
inductive Rep (K:PySem.W.Frag)(F:Hp):V->D->Prop
 |non:Rep K F .non .non
 |bl (b:Bool):Rep K F (.bl b) (.bl b)
 |int (i:Int):Rep K F (.int i) (.int i)
 |str (x:Str):Rep K F (.str x) (.str x)
 |lst {a:Addr} {xs:List V} {ds:List D}:SqL K F a xs->Reps K F xs ds->Rep K F (.ref a) (.lst ds)
 |tup {a:Addr} {xs:List V} {ds:List D}:SqT K F a xs->Reps K F xs ds->Rep K F (.ref a) (.tup ds)
 |exc {a C:Addr} {c:Str}:(PySem.W.nsIn K mainGlobals c=some (some (.ref C))/\xName K C=some c)->F a=some (.ext (XAt a C))->Rep K F (.ref a) (.exc c)
inductive Reps (K:PySem.W.Frag)(F:Hp):List V->List D->Prop
 |nil:Reps K F [] []
 |cons {v:V} {d:D} {vs:List V} {ds:List D}:Rep K F v d->Reps K F vs ds->Reps K F (v::vs) (d::ds)
end
theorem Same.seqT {K:PySem.W.Frag}{H H':Hp}{a:Addr}{xs:List V}(e:Same H H')(h:SqT K H a xs):SqT K H' a xs:=by
 rcases h with (h|⟨o,h⟩)|h
 .exact .inl (.inl (e _ _ h))
 .exact .inl (.inr ⟨o,e _ _ h⟩)
 .exact .inr h
section
variable {K:PySem.W.Frag}{F F':Hp}
mutual
theorem Rep.mono (e:Same F F'):∀{v:V}{d:D},Rep K F v d->Rep K F' v d
 |_,_,.non=>.non
 |_,_,.bl b=>.bl b
 |_,_,.int i=>.int i
 |_,_,.str x=>.str x
 |_,_,.lst h r=>.lst (e.seq h) (Reps.mono e r)
 |_,_,.tup h r=>.tup (e.seqT h) (Reps.mono e r)
 |_,_,.exc h r=>.exc h (e _ _ r)
theorem Reps.mono (e:Same F F'):∀{vs:List V}{ds:List D},Reps K F vs ds->Reps K F' vs ds
 |_,_,.nil=>.nil
 |_,_,.cons h r=>.cons (Rep.mono e h) (Reps.mono e r)
end
theorem Reps.length:∀{vs:List V}{ds:List D},Reps K F vs ds->vs.length=ds.length
 |_,_,.nil=>rfl
 |_,_,.cons _ r=>congrArg (·+1) (Reps.length r)
theorem Reps.get:∀{vs:List V}{ds:List D}{i:Nat}{d:D},Reps K F vs ds->ds[i]? =some d->∃ v,vs[i]? =some v/\Rep K F v d
 |_,_,_,_,.nil,e=>by simp at e
 |_,_,0,_,.cons h _,e=>by simp at e;subst e;exact⟨_,rfl,h⟩
 |_,_,i+1,d,.cons _ r,e=>by
  obtain⟨v,h1,h2⟩:=Reps.get (i:=i) (d:=d) r (by simpa using e)
  exact⟨v,by simpa using h1,h2⟩
theorem Reps.get':∀{vs:List V}{ds:List D}{i:Nat}{v:V},Reps K F vs ds->vs[i]? =some v->∃ d,ds[i]? =some d/\Rep K F v d
 |_,_,_,_,.nil,e=>by simp at e
 |_,_,0,_,.cons h _,e=>by simp at e;subst e;exact⟨_,rfl,h⟩
 |_,_,i+1,d,.cons _ r,e=>by
  obtain⟨v,h1,h2⟩:=Reps.get' (i:=i) (v:=d) r (by simpa using e)
  exact⟨v,by simpa using h1,h2⟩
theorem Reps.append:∀{vs ws:List V}{ds es:List D},Reps K F vs ds->Reps K F ws es->Reps K F (vs++ws) (ds++es)
 |_,_,_,_,.nil,s=>s
 |_,_,_,_,.cons h r,s=>.cons h (Reps.append r s)
theorem Reps.take:∀{vs:List V}{ds:List D}(n:Nat),Reps K F vs ds->Reps K F (vs.take n) (ds.take n)
 |_,_,0,_=>.nil
 |_,_,_+1,.nil=>.nil
 |_,_,n+1,.cons h r=>.cons h (Reps.take n r)
theorem Reps.drop:∀{vs:List V}{ds:List D}(n:Nat),Reps K F vs ds->Reps K F (vs.drop n) (ds.drop n)
 |_,_,0,r=>r
 |_,_,_+1,.nil=>.nil
 |_,_,n+1,.cons _ r=>Reps.drop n r
theorem Reps.set {v:V}{d:D}(h:Rep K F v d):∀{vs:List V}{ds:List D}(i:Nat),Reps K F vs ds->Reps K F (vs.set i v) (ds.set i d)
 |_,_,_,.nil=>.nil
 |_,_,0,.cons _ r=>.cons h r
 |_,_,i+1,.cons q r=>.cons q (Reps.set h i r)
theorem Reps.reverse {vs:List V}{ds:List D}(h:Reps K F vs ds):Reps K F vs.reverse ds.reverse:=by
 induction vs generalizing ds with
 |nil=>cases h;exact .nil
 |cons v vs i=>
  cases h with
  |cons h r=>rw[List.reverse_cons,List.reverse_cons];exact(i r).append (.cons h .nil)
end
structure Ext (F H F' H':Hp):Prop where
 ff:Same F F'
 hh:Same H H'
 fh:Same F' H'
 new:∀ b,F b=none->F' b≠none->H b=none
 nf:∀ b o u,F' b=some (.frz o u)->F b=some (.frz o u)
theorem Ext.refl {F H:Hp}(h:Same F H):Ext F H F H:=⟨Same.refl _,Same.refl _,h,fun b e n=>absurd e n,fun _ _ _ z=>z⟩
theorem Ext.trans {F H F1 H1 F2 H2:Hp}(a:Ext F H F1 H1)(b:Ext F1 H1 F2 H2):Ext F H F2 H2:=
 ⟨a.ff.trans b.ff,a.hh.trans b.hh,b.fh,fun c e n=>by
  by_cases h:F1 c=none
  .exact a.hh.free (b.new c h n)
  .exact a.new c e h,fun c o u z=>a.nf c o u (b.nf c o u z)⟩
theorem Same.put {F H:Hp}{p:Addr}{o:HO}(h:Same F H)(hp:F p=none):Same F (upd H p o):=fun b u e=>by
 rw[w5 (m7 e hp)];exact h b u e
theorem Same.put2 {F H:Hp}{p:Addr}{o:HO}(h:Same F H):Same (upd F p o) (upd H p o):=fun b u e=>by
 by_cases i:b=p
 .subst i;rw[x8]at e ⊢;exact e
 .rw[w5 i]at e ⊢;exact h b u e
theorem Ext.laid {F H:Hp}{p:Addr}{o:HO}(h:Same F H)(hp:H p=none)(j:∀ a u,o≠ .frz a u:=by intro _ _ z;cases z):Ext F H (upd F p o) (upd H p o):=
 ⟨(Same.refl F).put (h.free hp),(Same.refl H).put hp,h.put2,fun b e n=>by
  by_cases i:b=p
  .subst i;exact hp
  .rw[w5 i]at n;exact absurd e n,fun b a u z=>by
  by_cases i:b=p
  .subst i;rw[x8]at z;exact absurd (Option.some.inj z) (j a u)
  .rw[w5 i]at z;exact z⟩
theorem Ext.own {F H:Hp}{p:Addr}{o:HO}(h:Same F H)(hp:H p=none):Ext F H F (upd H p o):=
 ⟨Same.refl F,(Same.refl H).put hp,h.put (h.free hp),fun b e n=>absurd e n,fun _ _ _ z=>z⟩
theorem Ext.freeze {F H F' H':Hp}{p:Addr}{o:HO}(a:Ext F H F' H')(j:F' p=none)(hp:H p=none)(G:H' p=some o)(q:∀ a u,o≠ .frz a u:=by intro _ _ z;cases z):Ext F H (upd F' p o) H':=
 ⟨a.ff.put (a.ff.free j),a.hh,fun b u e=>by
   by_cases i:b=p
   .subst i;rw[x8]at e;cases e;exact G
   .rw[w5 i]at e;exact a.fh b u e,fun b e n=>by
   by_cases i:b=p
   .subst i;exact hp
   .rw[w5 i]at n;exact a.new b e n,fun b c u z=>by
   by_cases i:b=p
   .subst i;rw[x8]at z;exact absurd (Option.some.inj z) (q c u)
   .rw[w5 i]at z;exact a.nf b c u z⟩
inductive S where
 |sh (d:D)|own (ds:List D)|ob (p:Addr) (ds:List D)
noncomputable abbrev Ro:=List (Option S)
structure Rl (K:PySem.W.Frag)(F0 H0 F H:Hp)(σ:St)(ρ:Ro):Prop where
 ext:Ext F0 H0 F H
 len:σ.length=ρ.length
 sh:∀(i:Nat) d,ρ[i]? =some (some (.sh d))->∃ v,σ[i]? =some (some v)/\Rep K F v d
 own:∀(i:Nat) ds,ρ[i]? =some (some (.own ds))->∃ p xs,σ[i]? =some (some (.ref p))/\F p=none/\H p=some (.lst xs)/\Reps K F xs ds/\H0 p=none
 inj:∀(i j:Nat) p ds es,i≠j->ρ[i]? =some (some (.own ds))->ρ[j]? =some (some (.own es))->σ[i]? =some (some (.ref p))->σ[j]? =some (some (.ref p))->False
 ob:∀(i:Nat) p ds,ρ[i]? =some (some (.ob p ds))->σ[i]? =some (some (.ref p))/\F p=none/\H0 p=none/\∃ xs,H p=some (.lst xs)/\Reps K F xs ds
 obn:∀(i j:Nat) p ds es,ρ[i]? =some (some (.ob p ds))->ρ[j]? =some (some (.own es))->σ[j]? =some (some (.ref p))->False
 ob1:∀(i j:Nat) p q ds es,ρ[i]? =some (some (.ob p ds))->ρ[j]? =some (some (.ob q es))->i=j
noncomputable def nob:Option S->Prop
 |some (.ob _ _)=>False
 |_=>True
theorem m8 {ρ:Ro}{i j:Nat}{x:Option S}{p:Addr}{ds:List D}(e:(ρ.set i x)[j]? =some (some (.ob p ds)))(G:nob x:=by exact True.intro):i≠j/\ρ[j]? =some (some (.ob p ds)):=by
 by_cases q:i=j
 .subst q
  rcases Nat.lt_or_ge i ρ.length with z|z
  .rw[List.getElem?_set_self z]at e;cases e;exact G.elim
  .rw[List.getElem?_eq_none (by simpa using z)]at e;cases e
 .rw[List.getElem?_set_ne q]at e;exact⟨q,e⟩
section
variable {K:PySem.W.Frag}{F0 H0 F H F' H':Hp}{σ:St}{ρ:Ro}
theorem Rl.fh (r:Rl K F0 H0 F H σ ρ):Same F H:=r.ext.fh
theorem Rl.go (r:Rl K F0 H0 F H σ ρ)(e:Ext F H F' H'):Rl K F0 H0 F' H' σ ρ where
 ext:=r.ext.trans e
 len:=r.len
 sh:=fun i d h=>let ⟨v,a,b⟩:=r.sh i d h;⟨v,a,b.mono e.ff⟩
 own:=fun i ds h=>by
  obtain⟨p,xs,a,b,c,d,z⟩:=r.own i ds h
  refine⟨p,xs,a,?_,e.hh _ _ c,d.mono e.ff,z⟩
  cases q:F' p with
  |none=>rfl
  |some o=>have:=e.new p b (by rw[q];simp);rw[this]at c;cases c
 inj:=r.inj
 ob:=fun i p ds h=>by
  obtain⟨a,b,c,xs,d,z⟩:=r.ob i p ds h
  refine⟨a,?_,c,xs,e.hh _ _ d,z.mono e.ff⟩
  cases q:F' p with
  |none=>rfl
  |some o=>have:=e.new p b (by rw[q];simp);rw[this]at d;cases d
 obn:=r.obn
 ob1:=r.ob1
theorem Rl.set (r:Rl K F0 H0 F H σ ρ){i:Nat}{v:V}{d:D}(h:Rep K F v d):Rl K F0 H0 F H (σ.set i (some v)) (ρ.set i (some (.sh d))) where
 ext:=r.ext
 len:=by simp[r.len]
 sh:=fun j d' e=>by
  by_cases I:i=j
  .subst I
   have G:i<ρ.length:=by
    rcases Nat.lt_or_ge i ρ.length with z|z
    .exact z
    .rw[List.getElem?_eq_none (by simpa using z)]at e;cases e
   rw[List.getElem?_set_self G]at e
   cases e
   exact⟨v,by rw[List.getElem?_set_self (by rw[r.len];exact G)],h⟩
  .rw[List.getElem?_set_ne I]at e ⊢
   exact r.sh j d' e
 own:=fun j ds e=>by
  by_cases I:i=j
  .subst I
   have G:i<ρ.length:=by
    rcases Nat.lt_or_ge i ρ.length with z|z
    .exact z
    .rw[List.getElem?_eq_none (by simpa using z)]at e;cases e
   rw[List.getElem?_set_self G]at e
   cases e
  .rw[List.getElem?_set_ne I]at e ⊢
   exact r.own j ds e
 inj:=fun j k p ds es L e1 e2 e3 M=>by
  have N:i≠j:=fun z=>by
   subst z
   have G:i<ρ.length:=by
    rcases Nat.lt_or_ge i ρ.length with z|z
    .exact z
    .rw[List.getElem?_eq_none (by simpa using z)]at e1;cases e1
   rw[List.getElem?_set_self G]at e1;cases e1
  have J:i≠k:=fun z=>by
   subst z
   have G:i<ρ.length:=by
    rcases Nat.lt_or_ge i ρ.length with z|z
    .exact z
    .rw[List.getElem?_eq_none (by simpa using z)]at e2;cases e2
   rw[List.getElem?_set_self G]at e2;cases e2
  rw[List.getElem?_set_ne N]at e1 e3
  rw[List.getElem?_set_ne J]at e2 M
  exact r.inj j k p ds es L e1 e2 e3 M
 ob:=fun j p ds e=>by
  obtain⟨n,e⟩:=m8 e
  rw[List.getElem?_set_ne n];exact r.ob j p ds e
 obn:=fun j k p ds es e1 e2 e3=>by
  obtain⟨n,e1⟩:=m8 e1
  have J:i≠k:=fun z=>by
   subst z
   have G:i<ρ.length:=by
    rcases Nat.lt_or_ge i ρ.length with z|z
    .exact z
    .rw[List.getElem?_eq_none (by simpa using z)]at e2;cases e2
   rw[List.getElem?_set_self G]at e2;cases e2
  rw[List.getElem?_set_ne J]at e2 e3
  exact r.obn j k p ds es e1 e2 e3
 ob1:=fun j k p q ds es e1 e2=>r.ob1 j k p q ds es (m8 e1).2 (m8 e2).2
theorem Rl.setOwn (r:Rl K F0 H0 F H σ ρ){i:Nat}{p:Addr}{xs:List V}{ds:List D}(S:F p=none)(R:H p=some (.lst xs))(h:Reps K F xs ds)(U:H0 p=none)
  (fr:∀(j:Nat) es,i≠j->ρ[j]? =some (some (.own es))->σ[j]? =some (some (.ref p))->False) (Y:∀(j:Nat) q es,ρ[j]? =some (some (.ob q es))->q≠p):Rl K F0 H0 F H (σ.set i (some (.ref p))) (ρ.set i (some (.own ds))) where
 ext:=r.ext
 len:=by simp[r.len]
 sh:=fun j d' e=>by
  by_cases N:i=j
  .subst N
   have G:i<ρ.length:=by
    rcases Nat.lt_or_ge i ρ.length with z|z
    .exact z
    .rw[List.getElem?_eq_none (by simpa using z)]at e;cases e
   rw[List.getElem?_set_self G]at e
   cases e
  .rw[List.getElem?_set_ne N]at e ⊢
   exact r.sh j d' e
 own:=fun j es e=>by
  by_cases N:i=j
  .subst N
   have G:i<ρ.length:=by
    rcases Nat.lt_or_ge i ρ.length with z|z
    .exact z
    .rw[List.getElem?_eq_none (by simpa using z)]at e;cases e
   rw[List.getElem?_set_self G]at e
   cases e
   exact⟨p,xs,by rw[List.getElem?_set_self (by rw[r.len];exact G)],S,R,h,U⟩
  .rw[List.getElem?_set_ne N]at e ⊢
   exact r.own j es e
 inj:=fun j k q es I L e1 e2 e3 J=>by
  by_cases O:i=j
  .subst O
   rw[List.getElem?_set_ne L]at e2 J
   have G:i<σ.length:=by
    rcases Nat.lt_or_ge i σ.length with z|z
    .exact z
    .rw[List.getElem?_eq_none (by simpa using z)]at e3;cases e3
   rw[List.getElem?_set_self G]at e3
   cases e3
   exact fr k I L e2 J
  .rw[List.getElem?_set_ne O]at e1 e3
   by_cases M:i=k
   .subst M
    have G:i<σ.length:=by
     rcases Nat.lt_or_ge i σ.length with z|z
     .exact z
     .rw[List.getElem?_eq_none (by simpa using z)]at J;cases J
    rw[List.getElem?_set_self G]at J
    cases J
    exact fr j es O e1 e3
   .rw[List.getElem?_set_ne M]at e2 J
    exact r.inj j k q es I L e1 e2 e3 J
 ob:=fun j q es e=>by
  obtain⟨n,e⟩:=m8 e
  rw[List.getElem?_set_ne n];exact r.ob j q es e
 obn:=fun j k q es I e1 e2 e3=>by
  obtain⟨n,e1⟩:=m8 e1
  by_cases M:i=k
  .subst M
   have G:i<σ.length:=by
    rcases Nat.lt_or_ge i σ.length with z|z
    .exact z
    .rw[List.getElem?_eq_none (by simpa using z)]at e3;cases e3
   rw[List.getElem?_set_self G]at e3
   cases e3
   exact Y j p es e1 rfl
  .rw[List.getElem?_set_ne M]at e2 e3
   exact r.obn j k q es I e1 e2 e3
 ob1:=fun j k p q ds es e1 e2=>r.ob1 j k p q ds es (m8 e1).2 (m8 e2).2
theorem Rl.freeze (r:Rl K F0 H0 F H σ ρ){i:Nat}{ds:List D}(h:ρ[i]? =some (some (.own ds))):∃ F',Rl K F0 H0 F' H σ (ρ.set i (some (.sh (.lst ds))))/\Same F F':=by
 obtain⟨p,xs,a,b,c,d,z⟩:=r.own i ds h
 have I:i<ρ.length:=(List.getElem?_eq_some_iff.mp h).1
 have e:Ext F0 H0 (upd F p (.lst xs)) H:=r.ext.freeze b z c
 have ff:Same F (upd F p (.lst xs)):=(Same.refl F).put b
 refine⟨upd F p (.lst xs),⟨e,by simp[r.len],fun j d' q=>?_,fun j es q=>?_,fun j k q es G M e1 e2 e3 e4=>?_,fun j q es e1=>?_,fun j k q es G e1 e2 e3=>?_,fun j k q Y es G e1 e2=>r.ob1 j k q Y es G (m8 e1).2 (m8 e2).2⟩,ff⟩
 .by_cases hj:i=j
  .subst hj
   rw[List.getElem?_set_self I]at q
   cases q
   exact⟨_,a,.lst (SqL.of x8) (d.mono ff)⟩
  .rw[List.getElem?_set_ne hj]at q
   obtain⟨v,U,S⟩:=r.sh j d' q
   exact⟨v,U,S.mono ff⟩
 .by_cases hj:i=j
  .subst hj
   rw[List.getElem?_set_self I]at q
   cases q
  .rw[List.getElem?_set_ne hj]at q
   obtain⟨N,J,O,b',c',d',R⟩:=r.own j es q
   have hp:N≠p:=fun w=>r.inj i j p ds es hj h q a (by rw[<-w];exact O)
   exact⟨N,J,O,by rw[w5 hp];exact b',c',d'.mono ff,R⟩
 .have n1:i≠j:=fun w=>by subst w;rw[List.getElem?_set_self I]at e1;cases e1
  have L:i≠k:=fun w=>by subst w;rw[List.getElem?_set_self I]at e2;cases e2
  rw[List.getElem?_set_ne n1]at e1
  rw[List.getElem?_set_ne L]at e2
  exact r.inj j k q es G M e1 e2 e3 e4
 .obtain⟨n,e1⟩:=m8 e1
  obtain⟨o1,o2,o3,zs,o4,Z⟩:=r.ob j q es e1
  have hp:q≠p:=fun w=>r.obn j i q es ds e1 h (by rw[w];exact a)
  exact⟨o1,by rw[w5 hp];exact o2,o3,zs,o4,Z.mono ff⟩
 .obtain⟨n,e1⟩:=m8 e1
  have L:i≠k:=fun w=>by subst w;rw[List.getElem?_set_self I]at e2;cases e2
  rw[List.getElem?_set_ne L]at e2
  exact r.obn j k q es G e1 e2 e3
theorem Rl.write (r:Rl K F0 H0 F H σ ρ){i:Nat}{p:Addr}{ys:List V}{ds es:List D}(h:ρ[i]? =some (some (.own ds)))(hp:σ[i]? =some (some (.ref p)))(hy:Reps K F ys es):
  Rl K F0 H0 F (upd H p (.lst ys)) σ (ρ.set i (some (.own es))):=by
 obtain⟨p',Z,a,b,c,d,z⟩:=r.own i ds h
 rw[hp]at a;cases a
 have R:i<ρ.length:=(List.getElem?_eq_some_iff.mp h).1
 refine⟨⟨r.ext.ff,r.ext.hh.put z,r.ext.fh.put b,r.ext.new,r.ext.nf⟩,by simp[r.len],fun j d' q=>?_,fun j fs q=>?_,fun j k q fs fs' J e1 e2 e3 e4=>?_,fun j q fs e1=>?_,fun j k q fs fs' e1 e2 e3=>?_,fun j k q q' es N e1 e2=>r.ob1 j k q q' es N (m8 e1).2 (m8 e2).2⟩
 .by_cases hj:i=j
  .subst hj
   rw[List.getElem?_set_self R]at q
   cases q
  .rw[List.getElem?_set_ne hj]at q
   exact r.sh j d' q
 .by_cases hj:i=j
  .subst hj
   rw[List.getElem?_set_self R]at q
   cases q
   exact⟨p,ys,hp,b,x8,hy,z⟩
  .rw[List.getElem?_set_ne hj]at q
   obtain⟨p2,I,U,b2,c2,d2,Y⟩:=r.own j fs q
   have G:p2≠p:=fun w=>r.inj i j p ds fs hj h q hp (by rw[<-w];exact U)
   exact⟨p2,I,U,b2,by rw[w5 G];exact c2,d2,Y⟩
 .have back:∀(m:Nat) M,(ρ.set i (some (S.own es)))[m]? =some (some (.own M))->∃ L,ρ[m]? =some (some (.own L)):=fun m M e=>by
   by_cases hm:i=m
   .subst hm;exact⟨ds,h⟩
   .rw[List.getElem?_set_ne hm]at e;exact⟨M,e⟩
  obtain⟨g1,e1⟩:=back j fs e1
  obtain⟨g2,e2⟩:=back k fs' e2
  exact r.inj j k q g1 g2 J e1 e2 e3 e4
 .obtain⟨n,e1⟩:=m8 e1
  obtain⟨o1,o2,o3,zs,o4,o5⟩:=r.ob j q fs e1
  have G:q≠p:=fun w=>r.obn j i q fs ds e1 h (by rw[w];exact hp)
  exact⟨o1,o2,o3,zs,by rw[w5 G];exact o4,o5⟩
 .obtain⟨n,e1⟩:=m8 e1
  by_cases O:i=k
  .subst O;exact r.obn j i q fs ds e1 h e3
  .rw[List.getElem?_set_ne O]at e2
   exact r.obn j k q fs fs' e1 e2 e3
theorem Rl.writeB (r:Rl K F0 H0 F H σ ρ){i:Nat}{p:Addr}{ys:List V}{ds es:List D}(h:ρ[i]? =some (some (.ob p ds)))(hy:Reps K F ys es):
  Rl K F0 H0 F (upd H p (.lst ys)) σ (ρ.set i (some (.ob p es))):=by
 obtain⟨a,b,z,Y,c,d⟩:=r.ob i p ds h
 have N:i<ρ.length:=(List.getElem?_eq_some_iff.mp h).1
 have G:∀(j:Nat) q fs,(ρ.set i (some (S.ob p es)))[j]? =some (some (.ob q fs))->j=i/\q=p/\fs=es:=fun j q fs e=>by
  by_cases I:i=j
  .subst I;rw[List.getElem?_set_self N]at e;cases e;exact⟨rfl,rfl,rfl⟩
  .rw[List.getElem?_set_ne I]at e;exact absurd (r.ob1 i j p q ds fs h e) I
 have other:∀(j:Nat) fs,(ρ.set i (some (S.ob p es)))[j]? =some (some (.own fs))->i≠j/\ρ[j]? =some (some (.own fs)):=fun j fs e=>by
  by_cases I:i=j
  .subst I;rw[List.getElem?_set_self N]at e;cases e
  .rw[List.getElem?_set_ne I]at e;exact⟨I,e⟩
 refine⟨⟨r.ext.ff,r.ext.hh.put z,r.ext.fh.put b,r.ext.new,r.ext.nf⟩,by simp[r.len],fun j d' q=>?_,fun j fs q=>?_,fun j k q fs fs' O e1 e2 e3 J=>r.inj j k q fs fs' O (other j fs e1).2 (other k fs' e2).2 e3 J,fun j q fs e1=>?_,fun j k q fs fs' e1 e2 e3=>?_,fun j k q Z fs fs' e1 e2=>?_⟩
 .by_cases I:i=j
  .subst I;rw[List.getElem?_set_self N]at q;cases q
  .rw[List.getElem?_set_ne I]at q;exact r.sh j d' q
 .obtain⟨n,e⟩:=other j fs q
  obtain⟨p2,L,R,b2,c2,d2,U⟩:=r.own j fs e
  have M:p2≠p:=fun w=>r.obn i j p ds fs h e (by rw[<-w];exact R)
  exact⟨p2,L,R,b2,by rw[w5 M];exact c2,d2,U⟩
 .obtain⟨e2,e3,J⟩:=G j q fs e1
  subst e2 e3 J
  exact⟨a,b,z,ys,x8,hy⟩
 .obtain⟨J,e5,_⟩:=G j q fs e1
  subst J e5
  exact r.obn j k q ds fs' h (other k fs' e2).2 e3
 .rw[(G j q fs e1).1,(G k Z fs' e2).1]
end
end L2
namespace L2
open PySem PySem.Spec PyProof.Rows
noncomputable abbrev ME:=Ro->Option D
noncomputable abbrev ML:=Ro->Option (List D)
noncomputable abbrev MB:=Ro->Option Bool
noncomputable def TD (K:PySem.W.Frag)(m:ME):TE:=fun σ H Q=>∃ F0 H0 F ρ d,Rl K F0 H0 F H σ ρ/\m ρ=some d/\∀ v F' H',Ext F H F' H'->Rep K F' v d->Q v H'
noncomputable def TF (K:PySem.W.Frag)(m:ML):TE:=fun σ H Q=>∃ F0 H0 F ρ ds,Rl K F0 H0 F H σ ρ/\m ρ=some ds/\∀ p xs F' H',Ext F H F' H'->H p=none->F' p=none->H' p=some (.lst xs)->Reps K F' xs ds->Q (.ref p) H'
noncomputable def TB (K:PySem.W.Frag)(m:ML):TE:=fun σ H Q=>∃ F0 H0 F ρ ds,Rl K F0 H0 F H σ ρ/\m ρ=some ds/\∀ p xs F' H',Ext F H F' H'->SqL K H' p xs->Reps K F' xs ds->Q (.ref p) H'
noncomputable def TC (K:PySem.W.Frag)(c:MB):TT:=fun σ H Q=>∃ F0 H0 F ρ b,Rl K F0 H0 F H σ ρ/\c ρ=some b/\∀ F' H',Ext F H F' H'->Q b H'
noncomputable def TAs (K:PySem.W.Frag)(m:ML):TA:=fun σ H Q=>∃ F0 H0 F ρ ds,Rl K F0 H0 F H σ ρ/\m ρ=some ds/\∀ vs F' H',Ext F H F' H'->Reps K F' vs ds->Q vs H'
noncomputable def PD (X:Cx)(e:Expr)(m:ME):Prop:=PE X e (TD X.K m)
noncomputable def PF (X:Cx)(e:Expr)(m:ML):Prop:=PE X e (TF X.K m)
noncomputable def PB (X:Cx)(e:Expr)(m:ML):Prop:=PE X e (TB X.K m)
noncomputable def PC' (X:Cx)(e:Expr)(c:MB):Prop:=PT X e (TC X.K c)
noncomputable def PCw (X:Cx)(e:Expr)(c:MB):Prop:=PW X e (TC X.K c)
noncomputable def PAs (X:Cx)(es:List Expr)(m:ML):Prop:=PA X es (TAs X.K m)
section
variable {X:Cx}{a b c e:Expr}{ma mb:ME}{pos:Pos}
theorem PE.imp {t t':TE}(h:PE X e t)(i:∀ σ H Q,t' σ H Q->t σ H Q):PE X e t':=fun pins s σ H Q I q=>h pins s σ H Q I (i σ H Q q)
theorem PT.imp {t t':TT}(h:PT X e t)(i:∀ σ H Q,t' σ H Q->t σ H Q):PT X e t':=fun pins s σ H Q I q=>h pins s σ H Q I (i σ H Q q)
theorem PW.imp {t t':TT}(h:PW X e t)(i:∀ σ H Q,t' σ H Q->t σ H Q):PW X e t':=fun w pins s σ H Q I q=>h w pins s σ H Q I (i σ H Q q)
theorem PA.imp {es:List Expr}{t t':TA}(h:PA X es t)(i:∀ σ H Q,t' σ H Q->t σ H Q):PA X es t':=fun pos pins s σ H Q I q=>h pos pins s σ H Q I (i σ H Q q)
noncomputable def mvar (i:Nat):ME:=fun ρ=>match ρ[i]? with |some (some (.sh d))=>some d|_=>none
noncomputable def bvar (i:Nat):ML:=fun ρ=>match ρ[i]? with |some (some (.sh (.lst ds)))=>some ds|some (some (.own ds))=>some ds|some (some (.ob _ ds))=>some ds|_=>none
noncomputable def mc (d:D):ME:=fun _=>some d
theorem z6 (i:Nat){x:Str}{pos:Pos}(h:PE X (.Name x pos) (tVar i)):PD X (.Name x pos) (mvar i):=h.imp fun σ H Q j=>by
 obtain⟨F0,H0,F,ρ,d,r,e,q⟩:=j
 unfold mvar at e
 split at e
 .rename_i h'
  cases e
  obtain⟨v,e1,e2⟩:=r.sh i _ h'
  exact⟨v,e1,q v F H (.refl r.fh) e2⟩
 .cases e
theorem w4 (i:Nat){x:Str}{pos:Pos}(h:PE X (.Name x pos) (tVar i)):PB X (.Name x pos) (bvar i):=h.imp fun σ H Q j=>by
 obtain⟨F0,H0,F,ρ,d,r,e,q⟩:=j
 unfold bvar at e
 split at e
 .rename_i ds h'
  cases e
  obtain⟨v,e1,e2⟩:=r.sh i _ h'
  cases e2 with
  |lst s G=>exact⟨_,e1,q _ _ F H (.refl r.fh) (r.fh.seq s) G⟩
 .rename_i ds h'
  cases e
  obtain⟨p,xs,e1,e2,e3,z,_⟩:=r.own i _ h'
  exact⟨_,e1,q _ _ F H (.refl r.fh) (SqL.of e3) z⟩
 .rename_i p ds h'
  cases e
  obtain⟨e1,e2,_,xs,e3,z⟩:=r.ob i p _ h'
  exact⟨_,e1,q _ _ F H (.refl r.fh) (SqL.of e3) z⟩
 .cases e
theorem y9 {i:Int}{j pos}:PD X (.Constant (.int i) j pos) (mc (.int i)):=pe_int.imp fun σ H Q z=>by
 obtain⟨F0,H0,F,ρ,d,r,e,q⟩:=z
 cases e;exact q _ F H (.refl r.fh) (.int i)
theorem T7 {b:Bool}{j pos}:PD X (.Constant (.bool b) j pos) (mc (.bl b)):=pe_bl.imp fun σ H Q i=>by
 obtain⟨F0,H0,F,ρ,d,r,e,q⟩:=i
 cases e;exact q _ F H (.refl r.fh) (.bl b)
theorem pd_non {j pos}:PD X (.Constant .none j pos) (mc .non):=pe_non.imp fun σ H Q i=>by
 obtain⟨F0,H0,F,ρ,d,r,e,q⟩:=i
 cases e;exact q _ F H (.refl r.fh) .non
noncomputable def mlst (m:ML):ME:=fun ρ=>(m ρ).map .lst
noncomputable def p6 (m:ME):ML:=fun ρ=>match m ρ with |some (.lst ds)=>some ds|_=>none
theorem k8 {m:ML}(h:PF X e m):PD X e (mlst m):=h.imp fun σ H Q i=>by
 obtain⟨F0,H0,F,ρ,d,r,e,q⟩:=i
 unfold mlst at e
 cases hm:m ρ with
 |none=>rw[hm]at e;cases e
 |some ds=>
  rw[hm]at e;cases e
  refine⟨F0,H0,F,ρ,ds,r,hm,fun p xs F' H' x hp j G z=>?_⟩
  exact q _ (upd F' p (.lst xs)) H' (x.freeze j hp G) (.lst (SqL.of x8) (z.mono ((Same.refl F').put j)))
theorem X8 (h:PD X e ma):PB X e (p6 ma):=h.imp fun σ H Q i=>by
 obtain⟨F0,H0,F,ρ,d,r,e,q⟩:=i
 unfold p6 at e
 split at e
 .rename_i ds hm
  cases e
  refine⟨F0,H0,F,ρ,_,r,hm,fun v F' H' x j=>?_⟩
  cases j with
  |lst s z=>exact q _ _ F' H' x (x.fh.seq s) z
 .cases e
theorem N4 {m:ML}(h:PF X e m):PB X e m:=h.imp fun σ H Q ⟨F0,H0,F,ρ,d,r,e,q⟩=>
 ⟨F0,H0,F,ρ,d,r,e,fun p xs F' H' x hp z j i=>q p xs F' H' x (SqL.of j) i⟩
@[irreducible] noncomputable def m2 (f:D->D->Option D)(x y:ME):ME:=fun ρ=>(x ρ).bind fun d=>(y ρ).bind fun e=>f d e
noncomputable def OpD (K:PySem.W.Frag)(r:R2)(f:D->D->Option D):Prop:=∀(F H:Hp)(x y:V)(d e g:D)(Q:VK),Same F H->Rep K F x d->Rep K F y e->f d e=some g->(∀ v F' H',Ext F H F' H'->Rep K F' v g->Q v H')->r x y H Q
theorem m2_some {f:D->D->Option D}{ρ:Ro}{g:D}(h:m2 f ma mb ρ=some g):∃ d e,ma ρ=some d/\mb ρ=some e/\f d e=some g:=by
 unfold m2 at h
 cases h1:ma ρ with
 |none=>rw[h1]at h;cases h
 |some d=>
  cases h2:mb ρ with
  |none=>rw[h1,h2]at h;cases h
  |some e=>rw[h1,h2]at h;exact⟨d,e,rfl,rfl,h⟩
theorem op_d {r:R2}{f:D->D->Option D}(J:OpD X.K r f){σ:St}{H:Hp}{Q:VK}(h:TD X.K (m2 f ma mb) σ H Q):tOp r (TD X.K ma) (TD X.K mb) σ H Q:=by
 obtain⟨F0,H0,F,ρ,g,z,e,q⟩:=h
 obtain⟨d,G,h1,h2,L⟩:=m2_some e
 refine⟨F0,H0,F,ρ,d,z,h1,fun x F1 H1 j r1=>⟨F0,H0,F1,ρ,G,z.go j,h2,fun y F2 H2 i r2=>?_⟩⟩
 exact J F2 H2 x y d G g Q i.fh (r1.mono i.ff) r2 L fun v F' H' I=>q v F' H' ((j.trans i).trans I)
theorem pd_op {op:Operator}{r:R2}{f:D->D->Option D}(i:OpR X (binaryOp op) r)(j:OpD X.K r f)(ha:PD X a ma)(q:PD X b mb):PD X (.BinOp a op b pos) (m2 f ma mb):=(pe_op i ha q).imp fun _ _ _ h=>op_d j h
theorem pd_cmp {op:CmpOp}{r:R2}{f:D->D->Option D}(i:OpR X (compareOp op) r)(j:OpD X.K r f)(ha:PD X a ma)(q:PD X b mb)(hm:behindInMarks op b=false):PD X (.Compare a [op] [b] pos) (m2 f ma mb):=(pe_cmpR i ha q hm).imp fun _ _ _ h=>op_d j h
noncomputable def v3 (m:ME):MB:=fun ρ=>match m ρ with |some (.bl b)=>some b|_=>none
theorem t8 {op:CmpOp}{r:R2}{f:D->D->Option D}(z:OpR X (compareOp op) r)(G:OpD X.K r f)(ha:PD X a ma)(I:PD X b mb)(hm:behindInMarks op b=false):PC' X (.Compare a [op] [b] pos) (v3 (m2 f ma mb)):=(pt_cmpR z ha I hm).imp fun σ H Q i=>by
 obtain⟨F0,H0,F,ρ,g,j,e,q⟩:=i
 unfold v3 at e
 split at e
 .rename_i k hk
  cases e
  refine op_d G ⟨F0,H0,F,ρ,.bl g,j,hk,fun v F' H' x r=>?_⟩
  cases r
  exact⟨_,rfl,q F' H' x⟩
 .cases e
noncomputable def int2 (g:Int->Int->Option D):D->D->Option D
 | .int i,.int j=>g i j
 |_,_=>none
theorem K5 {K:PySem.W.Frag}{g:Int->Int->V}{g':Int->Int->D}(z:∀ F i j,Rep K F (g i j) (g' i j)):OpD K (rI0 g) (int2 fun i j=>some (g' i j)):=by
 intro F H x y d e w Q s r1 r2 h q
 cases r1 <;> cases r2 <;> first| (cases h;done)|skip
 rename_i i j
 cases h
 exact⟨i,j,rfl,rfl,q _ F H (.refl s) (z F i j)⟩
theorem opd_rI {K:PySem.W.Frag}{C:Int->Int->Prop}{ok:Int->Int->Bool}{g:Int->Int->V}{g':Int->Int->D}(G:∀ i j,ok i j=true->C i j)(z:∀ F i j,Rep K F (g i j) (g' i j)):
  OpD K (rI C g) (int2 fun i j=>if ok i j=true then some (g' i j)else none):=by
 intro F H x y d e w Q s r1 r2 h q
 cases r1 <;> cases r2 <;> first| (cases h;done)|skip
 rename_i i j
 have h:(if ok i j=true then some (g' i j)else none)=some w:=h
 split at h
 .rename_i hk
  cases h
  exact⟨i,j,rfl,rfl,G i j hk,q _ F H (.refl s) (z F i j)⟩
 .cases h
noncomputable def subD:D->D->Option D:=int2 fun i j=>some (.int (i-j))
noncomputable def T0 (i j:Int):Bool:=(decide (-(2^64)<i)&&decide (i<2^64)) || (decide (-(2^64)<j)&&decide (j<2^64))
noncomputable def mulD:D->D->Option D:=int2 fun i j=>if T0 i j=true then some (.int (i*j))else none
noncomputable def fdivOk (_ j:Int):Bool:=decide (0<j)&&decide (j<1073741824)
noncomputable def fdivD:D->D->Option D:=int2 fun i j=>if fdivOk i j=true then some (.int (i / j))else none
noncomputable def modOk (_ j:Int):Bool:=decide (0<j)
noncomputable def modD:D->D->Option D:=int2 fun i j=>if modOk i j=true then some (.int (i % j))else none
noncomputable def powOk (i j:Int):Bool:=decide (0<=j)&&decide (j<=1000000)&&decide (i.natAbs<2^64)
noncomputable def powD:D->D->Option D:=int2 fun i j=>if powOk i j=true then some (.int (i^j.toNat))else none
noncomputable def ltD:D->D->Option D:=int2 fun i j=>some (.bl (decide (i<j)))
noncomputable def leD:D->D->Option D:=int2 fun i j=>some (.bl (decide (i<=j)))
noncomputable def gtD:D->D->Option D:=int2 fun i j=>some (.bl (decide (j<i)))
noncomputable def geD:D->D->Option D:=int2 fun i j=>some (.bl (decide (j<=i)))
theorem K4 {K:PySem.W.Frag}:OpD K (rI0 fun i j=>.int (i-j)) subD:=K5 fun F i j=>.int _
theorem opd_mul {K:PySem.W.Frag}:OpD K (rI CMul fun i j=>.int (i*j)) mulD:=opd_rI (fun i j h=>by
 unfold T0 at h
 simp only[Bool.or_eq_true,Bool.and_eq_true,decide_eq_true_eq]at h
 exact h) fun F i j=>.int _
theorem opd_fdiv {K:PySem.W.Frag}:OpD K (rI CDiv fun i j=>.int (i / j)) fdivD:=opd_rI (fun i j h=>by
 unfold fdivOk at h
 simp only[Bool.and_eq_true,decide_eq_true_eq]at h
 exact h) fun F i j=>.int _
theorem opd_mod {K:PySem.W.Frag}:OpD K (rI (fun _ j=>0<j) fun i j=>.int (i % j)) modD:=opd_rI (fun i j h=>of_decide_eq_true h) fun F i j=>.int _
theorem opd_pow {K:PySem.W.Frag}:OpD K (rI CPow fun i j=>.int (i^j.toNat)) powD:=opd_rI (fun i j h=>by
 unfold powOk at h
 simp only[Bool.and_eq_true,decide_eq_true_eq]at h
 exact⟨h.1.1,h.1.2,h.2⟩) fun F i j=>.int _
theorem T2 {K:PySem.W.Frag}:OpD K (rI0 fun i j=>.bl (decide (i<j))) ltD:=K5 fun F i j=>.bl _
theorem opd_le {K:PySem.W.Frag}:OpD K (rI0 fun i j=>.bl (decide (i<=j))) leD:=K5 fun F i j=>.bl _
theorem opd_gt {K:PySem.W.Frag}:OpD K (rI0 fun i j=>.bl (decide (j<i))) gtD:=K5 fun F i j=>.bl _
theorem V3 {K:PySem.W.Frag}:OpD K (rI0 fun i j=>.bl (decide (j<=i))) geD:=K5 fun F i j=>.bl _
noncomputable def eqS:D->D->Option Bool
 | .non,.non=>some true| .non,.int _=>some false| .int _,.non=>some false| .non,.bl _=>some false| .bl _,.non=>some false| .non,.str _=>some false| .str _,.non=>some false
 | .int i,.int j=>some (i==j)| .bl i,.bl j=>some (i==j)| .str i,.str j=>some (i==j)
 | .int _,.str _=>some false| .str _,.int _=>some false| .bl _,.str _=>some false| .str _,.bl _=>some false
 |_,_=>none
noncomputable def eqSD (d e:D):Option D:=(eqS d e).map .bl
noncomputable def neSD (d e:D):Option D:=(eqS d e).map fun b=>.bl (!b)
theorem V4 {K:PySem.W.Frag}:OpD K rEq eqSD:=by
 intro F H x y d e w Q s r1 r2 h q
 cases r1 <;> cases r2 <;> first| (cases h;done)| (cases h;refine⟨rfl,?_⟩;first|exact q _ F H (.refl s) (.bl _)| (rw[dec_int];exact q _ F H (.refl s) (.bl _))| (rw[dec_bl];exact q _ F H (.refl s) (.bl _))| (rw[dec_str];exact q _ F H (.refl s) (.bl _)))
theorem opd_neS {K:PySem.W.Frag}:OpD K rNe neSD:=by
 intro F H x y d e w Q s r1 r2 h q
 cases r1 <;> cases r2 <;> first| (cases h;done)| (cases h;refine⟨rfl,?_⟩;first|exact q _ F H (.refl s) (.bl _)| (rw[dec_int];exact q _ F H (.refl s) (.bl _))| (rw[dec_bl];exact q _ F H (.refl s) (.bl _))| (rw[dec_str];exact q _ F H (.refl s) (.bl _)))
noncomputable def m1 (f:D->Option D)(x:ME):ME:=fun ρ=>(x ρ).bind f
noncomputable def negD:D->Option D
 | .int i=>some (.int (-i))
 |_=>none
theorem m1_some {f:D->Option D}{ρ:Ro}{g:D}(h:m1 f ma ρ=some g):∃ d,ma ρ=some d/\f d=some g:=by
 unfold m1 at h
 cases h1:ma ρ with
 |none=>rw[h1]at h;cases h
 |some d=>rw[h1]at h;exact⟨d,rfl,h⟩
theorem R8 (ha:PD X a ma):PD X (.UnaryOp .USub a pos) (m1 negD ma):=(pe_un un_neg ha).imp fun σ H Q i=>by
 obtain⟨F0,H0,F,ρ,g,z,e,q⟩:=i
 obtain⟨d,h1,h2⟩:=m1_some e
 refine⟨F0,H0,F,ρ,d,z,h1,fun x F1 H1 j r1=>?_⟩
 cases r1 <;> first| (cases h2;done)|skip
 cases h2
 exact⟨_,rfl,q _ F1 H1 j (.int _)⟩
noncomputable def mand (x y:ME):ME:=fun ρ=>match x ρ with |some (.bl true)=>y ρ|some (.bl false)=>some (.bl false)|_=>none
theorem pd_one {op}(h:PD X a ma):PD X (.BoolOp op [a] pos) ma:=pe_one h
theorem pd_and {rest:List Expr}(ha:PD X a ma)(I:PD X (.BoolOp .And (b::rest) pos) mb):PD X (.BoolOp .And (a::b::rest) pos) (mand ma mb):=(pe_and ha I).imp fun σ H Q i=>by
 obtain⟨F0,H0,F,ρ,g,z,e,q⟩:=i
 unfold mand at e
 split at e
 .rename_i h1
  refine⟨F0,H0,F,ρ,_,z,h1,fun x F1 H1 j r1=>?_⟩
  cases r1
  refine⟨true,rfl,?_⟩
  refine iteT ?_
  exact⟨F0,H0,F1,ρ,g,z.go j,e,fun y F2 H2 G r2=>q y F2 H2 (j.trans G) r2⟩
 .rename_i h1
  cases e
  refine⟨F0,H0,F,ρ,_,z,h1,fun x F1 H1 j r1=>?_⟩
  cases r1
  refine⟨false,rfl,?_⟩
  refine iteF ?_
  exact q _ F1 H1 j (.bl _)
 .cases e
noncomputable def truD:D->Option Bool
 | .non=>some false
 | .bl b=>some b
 | .int i=>some (i != 0)
 | .str y=>if y.length<=sizeLine then some ((y.length:Int) != 0)else none
 | .lst ds=>some (!ds.isEmpty)
 | .tup ds=>some (!ds.isEmpty)
 | .exc _=>none
noncomputable def mtru (m:ME):MB:=fun ρ=>(m ρ).bind truD
theorem O7 {K:PySem.W.Frag}{F:Hp}{vs:List V}{ds:List D}(h:Reps K F vs ds):(!ds.isEmpty)= !vs.isEmpty:=by cases h <;> rfl
theorem pc_tru (ha:PD X a ma)(J:∀ i,isTrue a X.env i=(do let v ← i;standAt a.pos;holding [v] (truthy v)):=by intro _;rfl):PC' X a (mtru ma):=(pt_truth ha J).imp fun σ H Q j=>by
 obtain⟨F0,H0,F,ρ,b,I,e,q⟩:=j
 unfold mtru at e
 cases h1:ma ρ with
 |none=>rw[h1]at e;cases e
 |some d=>
  rw[h1]at e
  refine⟨F0,H0,F,ρ,d,I,h1,fun x F1 H1 z r1=>⟨b,?_,q F1 H1 z⟩⟩
  cases r1 with
  |non=>cases e;rfl
  |bl=>cases e;rfl
  |int=>cases e;rfl
  |str x=>
   have e:(if x.length<=sizeLine then some ((x.length:Int) != 0)else none)=some b:=e
   split at e
   .rename_i hz
    cases e
    exact⟨hz,rfl⟩
   .cases e
  |lst s G=>cases e;exact .inl ⟨_,z.fh.seq s,O7 G⟩
  |tup s G=>cases e;exact .inr (.inl ⟨_,z.fh.seqT s,O7 G⟩)
  |exc=>cases e
variable {ca cb:MB}
noncomputable def cand (x y:MB):MB:=fun ρ=>match x ρ with |some true=>y ρ|some false=>some false|none=>none
noncomputable def cor (x y:MB):MB:=fun ρ=>match x ρ with |some true=>some true|some false=>y ρ|none=>none
noncomputable def cnot (x:MB):MB:=fun ρ=>(x ρ).map (!·)
theorem pc_w (h:PCw X a ca):PC' X a ca:=h.pt
theorem pw1_and (h:PC' X a ca):PCw X (.BoolOp .And [a] pos) ca:=pw_and1 h
theorem L5 (h:PC' X a ca):PCw X (.BoolOp .Or [a] pos) ca:=pw_or1 h
theorem pcw_and {rest:List Expr}(ha:PC' X a ca)(I:PCw X (.BoolOp .And (b::rest) pos) cb):PCw X (.BoolOp .And (a::b::rest) pos) (cand ca cb):=(pw_and ha I).imp fun σ H Q i=>by
 obtain⟨F0,H0,F,ρ,g,z,e,q⟩:=i
 unfold cand at e
 split at e
 .rename_i h1
  refine⟨F0,H0,F,ρ,_,z,h1,fun F1 H1 j=>?_⟩
  refine iteT ?_
  exact⟨F0,H0,F1,ρ,g,z.go j,e,fun F2 H2 G=>q F2 H2 (j.trans G)⟩
 .rename_i h1
  cases e
  refine⟨F0,H0,F,ρ,_,z,h1,fun F1 H1 j=>?_⟩
  refine iteF ?_
  exact q F1 H1 j
 .cases e
theorem K3 {rest:List Expr}(ha:PC' X a ca)(I:PCw X (.BoolOp .Or (b::rest) pos) cb):PCw X (.BoolOp .Or (a::b::rest) pos) (cor ca cb):=(pw_or ha I).imp fun σ H Q i=>by
 obtain⟨F0,H0,F,ρ,g,z,e,q⟩:=i
 unfold cor at e
 split at e
 .rename_i h1
  cases e
  refine⟨F0,H0,F,ρ,_,z,h1,fun F1 H1 j=>?_⟩
  refine iteT ?_
  exact q F1 H1 j
 .rename_i h1
  refine⟨F0,H0,F,ρ,_,z,h1,fun F1 H1 j=>?_⟩
  refine iteF ?_
  exact⟨F0,H0,F1,ρ,g,z.go j,e,fun F2 H2 G=>q F2 H2 (j.trans G)⟩
 .cases e
theorem pc_not (ha:PC' X a ca):PC' X (.UnaryOp .Not a pos) (cnot ca):=(pt_not ha).imp fun σ H Q i=>by
 obtain⟨F0,H0,F,ρ,g,z,e,q⟩:=i
 unfold cnot at e
 cases h1:ca ρ with
 |none=>rw[h1]at e;cases e
 |some k=>
  rw[h1]at e;cases e
  exact⟨F0,H0,F,ρ,k,z,h1,fun F1 H1 j=>q F1 H1 j⟩
noncomputable def anil:ML:=fun _=>some []
@[irreducible] noncomputable def y0 (x:ME)(r:ML):ML:=fun ρ=>(x ρ).bind fun d=>(r ρ).bind fun ds=>some (d::ds)
theorem C3 {r:ML}{ρ:Ro}{i:List D}(h:y0 ma r ρ=some i):∃ d ds,ma ρ=some d/\r ρ=some ds/\i=d::ds:=by
 unfold y0 at h
 cases h1:ma ρ with
 |none=>rw[h1]at h;cases h
 |some d=>
  cases h2:r ρ with
  |none=>rw[h1,h2]at h;cases h
  |some ds=>rw[h1,h2]at h;cases h;exact⟨d,ds,rfl,rfl,rfl⟩
theorem z9:PAs X [] anil:=pa_nil.imp fun σ H Q i=>by
 obtain⟨F0,H0,F,ρ,g,j,e,q⟩:=i
 cases e;exact q [] F H (.refl j.fh) .nil
theorem z0 {es:List Expr}{m:ML}(ha:PD X a ma)(J:PAs X es m)(I:starEach (a::es) X.env=(false,eval a X.env)::starEach es X.env:=by rfl):PAs X (a::es) (y0 ma m):=(b9 ha J I).imp fun σ H Q i=>by
 obtain⟨F0,H0,F,ρ,g,G,e,q⟩:=i
 obtain⟨d,ds,h1,h2,rfl⟩:=C3 e
 refine⟨F0,H0,F,ρ,d,G,h1,fun x F1 H1 z r1=>⟨F0,H0,F1,ρ,ds,G.go z,h2,fun xs F2 H2 j r2=>?_⟩⟩
 exact q _ F2 H2 (z.trans j) (.cons (r1.mono j.ff) r2)
@[irreducible] noncomputable def t5 (m:ML):ML:=fun ρ=>match m ρ with |some ds=>if ds.length<=sizeLine then some ds else none|none=>none
theorem E9 {m:ML}{ρ:Ro}{i:List D}(h:t5 m ρ=some i):m ρ=some i/\i.length<=sizeLine:=by
 unfold t5 at h
 cases h1:m ρ with
 |none=>rw[h1]at h;cases h
 |some ds=>
  rw[h1]at h
  have h:(if ds.length<=sizeLine then some ds else none)=some i:=h
  split at h
  .rename_i hz;cases h;exact⟨rfl,hz⟩
  .cases h
theorem p7 {es:List Expr}{m:ML}(h:PAs X es m):PF X (.List es pos) (t5 m):=(pe_lst h).imp fun σ H Q i=>by
 obtain⟨F0,H0,F,ρ,g,z,e,q⟩:=i
 obtain⟨h1,h2⟩:=E9 e
 refine⟨F0,H0,F,ρ,g,z,h1,fun vs F1 H1 j r1=>⟨by rw[r1.length];exact h2,fun p hp=>?_⟩⟩
 exact q p vs F1 _ (j.trans (Ext.own j.fh hp)) (j.hh.free hp) (j.fh.free hp) x8 r1
noncomputable def mtup (m:ML):ME:=fun ρ=>(t5 m ρ).map .tup
theorem pd_tup {es:List Expr}{m:ML}{k:Nat}(h:PAs X es m):PD X (.Tuple es k pos) (mtup m):=(pe_tup h).imp fun σ H Q i=>by
 obtain⟨F0,H0,F,ρ,g,z,e,q⟩:=i
 unfold mtup at e
 cases h1:t5 m ρ with
 |none=>rw[h1]at e;cases e
 |some ds=>
  rw[h1]at e;cases e
  obtain⟨h1,h2⟩:=E9 h1
  refine⟨F0,H0,F,ρ,ds,z,h1,fun vs F1 H1 j r1=>⟨by rw[r1.length];exact h2,fun p hp=>?_⟩⟩
  exact q _ _ _ (j.trans (Ext.laid j.fh hp)) (.tup (SqT.of x8) (r1.mono ((Same.refl F1).put (j.fh.free hp))))
noncomputable def mlen (m:ML):ME:=fun ρ=>(m ρ).map fun ds=>.int ds.length
@[irreducible] noncomputable def mix (m:ML)(i:ME):ME:=fun ρ=>(m ρ).bind fun ds=>(i ρ).bind fun| .int k=>atI ds k|_=>none
theorem atI_reps {K:PySem.W.Frag}{F:Hp}{vs:List V}{ds:List D}{k:Int}{d:D}(r:Reps K F vs ds)(h:atI ds k=some d):∃ v,atI vs k=some v/\Rep K F v d:=by
 unfold atI at h ⊢
 rw[r.length]
 cases q:ixN ds.length k with
 |none=>rw[q]at h;cases h
 |some j=>
  rw[q]at h
  exact r.get h
theorem l9 {G:ML}(ha:PB X a G)(M:PD X b mb)(L:PlainIx b:=by exact fun _ _=>rfl):PD X (.Subscript a b pos) (mix G mb):=(pe_ix ix_list ha M L).imp fun σ H Q j=>by
 obtain⟨F0,H0,F,ρ,g,J,e,q⟩:=j
 unfold mix at e
 cases h1:G ρ with
 |none=>rw[h1]at e;cases e
 |some ds=>
  cases h2:mb ρ with
  |none=>rw[h1,h2]at e;cases e
  |some i=>
   rw[h1,h2]at e
   refine⟨F0,H0,F,ρ,ds,J,h1,fun p xs F1 H1 I s1 r1=>⟨F0,H0,F1,ρ,i,J.go I,h2,fun y F2 H2 z r2=>?_⟩⟩
   cases r2 <;> first| (cases e;done)|skip
   rename_i k
   obtain⟨v,O,N⟩:=atI_reps (r1.mono z.ff) (show atI ds k=some g from e)
   exact⟨p,xs,k,v,rfl,rfl,z.hh.seq s1,O,q v F2 H2 (I.trans z) N⟩
theorem cut_reps {K:PySem.W.Frag}{F:Hp}{vs:List V}{ds:List D}(r:Reps K F vs ds)(lo hi:Option Int):Reps K F (cutV vs lo hi) ((ds.drop (HT.sIx ds.length 0 lo)).take (HT.sIx ds.length ds.length hi-HT.sIx ds.length 0 lo)):=by
 unfold cutV
 rw[r.length]
 exact(r.drop _).take _
noncomputable def cutL (ds:List D)(lo hi:Option Int):List D:=(ds.drop (HT.sIx ds.length 0 lo)).take (HT.sIx ds.length ds.length hi-HT.sIx ds.length 0 lo)
noncomputable abbrev MO:=Ro->Option (Option Int)
noncomputable def R9:MO:=fun _=>some none
noncomputable def V2 (m:ME):MO:=fun ρ=>(m ρ).bind fun| .int i=>some (some i)|_=>none
noncomputable def TOs (K:PySem.W.Frag)(m:MO):TO:=fun σ H Q=>∃ F0 H0 F ρ i,Rl K F0 H0 F H σ ρ/\m ρ=some i/\∀ F' H',Ext F H F' H'->Q i H'
noncomputable def POs (X:Cx)(e:Option Expr)(m:MO):Prop:=PO X e (TOs X.K m)
theorem PO.imp {e:Option Expr}{t t':TO}(h:PO X e t)(i:∀ σ H Q,t' σ H Q->t σ H Q):PO X e t':=fun pins s σ H Q I q=>h pins s σ H Q I (i σ H Q q)
theorem U3:POs X none R9:=PO.imp po_none fun σ H Q j=>by obtain⟨F0,H0,F,ρ,i,z,e,q⟩:=j;cases e;exact q F H (.refl z.fh)
theorem X6 (h:PD X a ma):POs X (some a) (V2 ma):=PO.imp (po_some h) fun σ H Q j=>by
 obtain⟨F0,H0,F,ρ,i,G,e,q⟩:=j
 unfold V2 at e
 cases h1:ma ρ with
 |none=>rw[h1]at e;cases e
 |some d=>
  rw[h1]at e
  refine⟨F0,H0,F,ρ,d,G,h1,fun v F1 H1 z r1=>?_⟩
  cases r1 <;> first| (cases e;done)|skip
  cases e
  exact⟨_,rfl,q F1 H1 z⟩
@[irreducible] noncomputable def mcut (m:ML)(lo hi:MO):ML:=fun ρ=>(m ρ).bind fun ds=>(lo ρ).bind fun l=>(hi ρ).bind fun h=>some (cutL ds l h)
theorem pf_cut {J:ML}{lo hi:Option Expr}{l h:MO}(ha:PB X a J)(S:POs X lo l)(hh:POs X hi h)(O:PE X e (tSl (rSlL X.K) (TB X.K J) (TOs X.K l) (TOs X.K h))):PF X e (mcut J l h):=O.imp fun σ H Q G=>by
 obtain⟨F0,H0,F,ρ,g,M,e,q⟩:=G
 unfold mcut at e
 cases h1:J ρ with
 |none=>rw[h1]at e;cases e
 |some ds=>
  cases h2:l ρ with
  |none=>rw[h1,h2]at e;cases e
  |some i=>
   cases h3:h ρ with
   |none=>rw[h1,h2,h3]at e;cases e
   |some j=>
    rw[h1,h2,h3]at e;cases e
    refine⟨F0,H0,F,ρ,ds,M,h1,fun p xs F1 H1 L s1 r1=>⟨F0,H0,F1,ρ,i,M.go L,h2,fun F2 H2 I=>⟨F0,H0,F2,ρ,j,(M.go L).go I,h3,fun R U z=>?_⟩⟩⟩
    refine⟨p,xs,rfl,z.hh.seq (I.hh.seq s1),fun w hw=>?_⟩
    have N:=(L.trans I).trans z
    exact q w _ R _ (N.trans (Ext.own z.fh hw)) (N.hh.free hw) (z.fh.free hw) x8 (cut_reps (r1.mono (I.ff.trans z.ff)) i j)
end
end L2
namespace L2
open PySem PySem.Spec PyProof.Rows
theorem list_add_any (l:Addr)(j:Array Value)(n:Nat)(b:Addr)(i:Array Value)(G:Nat)(M z:Option Addr)(sl q:Array (Option Value))(J:j.size+i.size<=sizeLine):
  Meets (Builtin.«list.__add__» ⟨[.ref l,.ref b],[]⟩) (fun _ R s=>s.heap.get? l=some { cls:=.type "list",dict:=M,data:=.seq j n,slots:=sl }/\s.heap.get? b=some { cls:=.type "list",dict:=z,data:=.seq i G,slots:=q }/\R (.ok (.ret (Value.ref s.heap.objs.size))) { s with heap:=s.heap.push { cls:=Value.type "list",data:=Data.seq (j++i) },toks:=s.toks }):=
 .of_wp fun prog w A R s h=>by obtain⟨hp,g,d,tk,os⟩:=s;obtain⟨I,L,h⟩:=h;have Y:=AutoSeq1.idx_int;have U:=AutoSeq1.sub_tuple_tuple;have S:=AutoSeq1.sub_list_list;have O:=AutoSeq1.sub_tuple_list;have N:=AutoSeq1.sub_list_tuple;wp_walk using AutoSeq1.wpAny_loadPart' I,AutoSeq1.wpAny_loadPart' L;exact⟨_,rfl,h⟩
section
variable {X:Cx}{a b c e:Expr}{ma mb:ME}{pos:Pos}
noncomputable def rCatS (K:PySem.W.Frag):R2:=fun x y H Q=>∃ l b xs zs,x= .ref l/\y= .ref b/\SqL K H l xs/\SqL K H b zs/\xs.length+zs.length<=sizeLine/\∀ p,H p=none->Q (.ref p) (upd H p (.lst (xs++zs)))
theorem T8:OpR X (binaryOp .Add) (rCatS X.K):=by
 intro pins s σ H x y v u Q I rx O h
 obtain⟨l,b,xs,zs,rfl,rfl,S,U,hz,q⟩:=h
 cases rx
 cases O
 obtain⟨its,r,⟨⟨cl,dd,dt,sl⟩,n,e,N,hd,M⟩,z⟩:=I.list S
 obtain⟨i,r2,⟨⟨a1,a0,Z,L⟩,R,e2,J,G,j⟩,z2⟩:=I.list U
 simp only at N hd M J G j
 subst N hd M J G j
 have l1:=r.length
 have l2:=r2.length
 refine concat_meets (T:="list") ⟨_,e,rfl⟩ ⟨_,e2,rfl⟩ PySem.noFill_list_add PySem.seq_list_add F.slot_list_add F.entry_list_add (F.args_list_add_2 _ _) (list_add_any l its.toArray n b i.toArray R none none sl L (by rw[List.size_toArray,List.size_toArray];omega)) ⟨e,e2,?_⟩
 have Y:its.toArray++i.toArray=(its++i).toArray:=by simp
 rw[Y]
 exact⟨.ref _,_,I.lnew (t':=s.toks) (r.append r2) (by rw[List.length_append];omega),rfl,q _ I.fresh⟩
@[irreducible] noncomputable def mcat (x y:ML):ML:=fun ρ=>(x ρ).bind fun ds=>(y ρ).bind fun es=>if ds.length+es.length<=sizeLine then some (ds++es)else none
theorem mcat_some {x y:ML}{ρ:Ro}{i:List D}(h:mcat x y ρ=some i):∃ ds es,x ρ=some ds/\y ρ=some es/\ds.length+es.length<=sizeLine/\i=ds++es:=by
 unfold mcat at h
 cases h1:x ρ with
 |none=>rw[h1]at h;cases h
 |some ds=>
  cases h2:y ρ with
  |none=>rw[h1,h2]at h;cases h
  |some es=>
   rw[h1,h2]at h
   have h:(if ds.length+es.length<=sizeLine then some (ds++es)else none)=some i:=h
   split at h
   .rename_i hz;cases h;exact⟨ds,es,rfl,rfl,hz,rfl⟩
   .cases h
theorem pf_cat {x y:ML}(ha:PB X a x)(L:PB X b y):PF X (.BinOp a .Add b pos) (mcat x y):=(pe_op T8 ha L).imp fun σ H Q j=>by
 obtain⟨F0,H0,F,ρ,g,I,e,q⟩:=j
 obtain⟨ds,es,h1,h2,J,rfl⟩:=mcat_some e
 refine⟨F0,H0,F,ρ,ds,I,h1,fun p xs F1 H1 G s1 r1=>⟨F0,H0,F1,ρ,es,I.go G,h2,fun p2 ys F2 H2 i s2 r2=>?_⟩⟩
 refine⟨p,p2,xs,ys,rfl,rfl,i.hh.seq s1,s2,by rw[r1.length,r2.length];exact J,fun w hw=>?_⟩
 have z:=G.trans i
 exact q w _ F2 _ (z.trans (Ext.own i.fh hw)) (z.hh.free hw) (i.fh.free hw) x8 ((r1.mono i.ff).append r2)
noncomputable def addD:D->D->Option D
 | .int i,.int j=>some (.int (i+j))
 | .lst ds,.lst es=>if ds.length+es.length<=sizeLine then some (.lst (ds++es))else none
 |_,_=>none
theorem P6 {K:PySem.W.Frag}:OpD K (fun x y H Q=>(rI0 fun i j=>V.int (i+j)) x y H Q\/rCatS K x y H Q) addD:=by
 intro F H x y d e w Q s r1 r2 h q
 cases r1 with
 |int i=>
  cases r2 <;> first| (cases h;done)|skip
  cases h
  exact .inl ⟨_,_,rfl,rfl,q _ F H (.refl s) (.int _)⟩
 |lst s1 J=>
  rename_i N M G
  cases r2 with
  |lst s2 I=>
   rename_i p2 L z
   have h:(if G.length+z.length<=sizeLine then some (D.lst (G++z))else none)=some w:=h
   split at h
   .rename_i hz
    cases h
    refine .inr ⟨_,_,_,_,rfl,rfl,s.seq s1,s.seq s2,by rw[J.length,I.length];exact hz,fun p hp=>?_⟩
    exact q _ _ _ (Ext.laid s hp) (.lst (SqL.of x8) ((J.append I).mono ((Same.refl F).put (s.free hp))))
   .cases h
  |_=>cases h
 |_=>cases r2 <;> cases h
theorem k6 (ha:PD X a ma)(i:PD X b mb):PD X (.BinOp a .Add b pos) (m2 addD ma mb):=pd_op (OpR.or D2 T8) P6 ha i
theorem O4 (ha:PD X a ma)(i:PD X b mb):PD X (.BinOp a .Sub b pos) (m2 subD ma mb):=pd_op op_sub K4 ha i
theorem K0 (ha:PD X a ma)(i:PD X b mb):PD X (.BinOp a .Mult b pos) (m2 mulD ma mb):=pd_op op_mul opd_mul ha i
theorem pd_fdiv (ha:PD X a ma)(i:PD X b mb):PD X (.BinOp a .FloorDiv b pos) (m2 fdivD ma mb):=pd_op op_fdiv opd_fdiv ha i
theorem K1 (ha:PD X a ma)(i:PD X b mb):PD X (.BinOp a .Mod b pos) (m2 modD ma mb):=pd_op op_mod opd_mod ha i
theorem pd_pow (ha:PD X a ma)(i:PD X b mb):PD X (.BinOp a .Pow b pos) (m2 powD ma mb):=pd_op op_pow opd_pow ha i
@[irreducible] noncomputable def f9 (f:List D->Option D)(m:ML):ME:=fun ρ=>(m ρ).bind f
noncomputable def CallD (K:PySem.W.Frag)(r:List V->Hp->VK->Prop)(f:List D->Option D):Prop:=∀(F H:Hp)(vs:List V)(ds:List D)(g:D)(Q:VK),Same F H->Reps K F vs ds->f ds=some g->(∀ v F' H',Ext F H F' H'->Rep K F' v g->Q v H')->r vs H Q
theorem call_d {r:List V->Hp->VK->Prop}{f:List D->Option D}{m:ML}(G:CallD X.K r f){σ:St}{H:Hp}{Q:VK}(h:TD X.K (f9 f m) σ H Q):tCB r (TAs X.K m) σ H Q:=by
 obtain⟨F0,H0,F,ρ,g,z,e,q⟩:=h
 unfold f9 at e
 cases h1:m ρ with
 |none=>rw[h1]at e;cases e
 |some ds=>
  rw[h1]at e
  exact⟨F0,H0,F,ρ,ds,z,h1,fun vs F1 H1 i r1=>G F1 H1 vs ds g Q i.fh r1 e fun v F' H' j=>q v F' H' (i.trans j)⟩
theorem v5 {e:Expr}{p:Pos}{m:ML}(J:Gl X "len")(hm:X.mg "len"=none)(ha:PB X e m)(I:starEach (e::[]) X.env=(false,eval e X.env)::starEach [] X.env:=by rfl)(L:starEach [e] X.env=(false,eval e X.env)::starEach [] X.env:=by rfl)(j:(backTo pos (starEach [] X.env)).any (·.1)=false:=by rfl):PD X (.Call (.Name "len" p) [e] [] pos) (mlen m):=
 (U4 call_len_seq J hm PySem.boot_len (b9 ha pa_nil I) (by decide) (by decide) L j).imp fun σ H Q i=>by
  obtain⟨F0,H0,F,ρ,g,G,e,q⟩:=i
  unfold mlen at e
  cases h1:m ρ with
  |none=>rw[h1]at e;cases e
  |some ds=>
   rw[h1]at e;cases e
   refine⟨F0,H0,F,ρ,ds,G,h1,fun p xs F1 H1 z s1 r1=>⟨p,xs,rfl,.inl s1,?_⟩⟩
   rw[r1.length]
   exact q _ F1 H1 z (.int _)
noncomputable def absF:List D->Option D
 |[.int i]=>some (.int (if i<0 then -i else i))
 |_=>none
theorem calld_abs {K:PySem.W.Frag}:CallD K (fun xs H Q=>∃ i,xs=[.int i]/\Q (.int (if i<0 then -i else i)) H) absF:=by
 intro F H vs ds g Q s r h q
 cases r with
 |nil=>cases h
 |cons r rr=>
  cases rr with
  |cons _ _=>revert h;unfold absF;intro h;split at h <;> simp_all
  |nil=>
   cases r with
   |int i=>cases h;exact⟨_,rfl,q _ F H (.refl s) (.int _)⟩
   |_=>cases h
theorem pd_abs {e:Expr}{p:Pos}{m:ML}(j:Gl X "abs")(hm:X.mg "abs"=none)(ha:PAs X [e] m)(q:starEach [e] X.env=(false,eval e X.env)::starEach [] X.env:=by rfl)(i:(backTo pos (starEach [] X.env)).any (·.1)=false:=by rfl):PD X (.Call (.Name "abs" p) [e] [] pos) (f9 absF m):=
 (U4 call_abs j hm PyProof.Rows.boot_abs ha (by decide) (by decide) q i).imp fun _ _ _ h=>call_d calld_abs h
noncomputable def two2 (k:Int->Int->Int):List D->Option D
 |[.int i,.int j]=>some (.int (k i j))
 |_=>none
theorem G0 {K:PySem.W.Frag}{k:Int->Int->Int}:CallD K (fun xs H Q=>∃ i j,xs=[.int i,.int j]/\Q (.int (k i j)) H) (two2 k):=by
 intro F H vs ds g Q s r h q
 cases r with
 |nil=>cases h
 |cons r rr=>
  cases rr with
  |nil=>revert h;unfold two2;intro h;split at h <;> simp_all
  |cons r2 rr=>
   cases rr with
   |cons _ _=>revert h;unfold two2;intro h;split at h <;> simp_all
   |nil=>
    cases r <;> cases r2 <;> first| (cases h;done)| (cases h;exact⟨_,_,rfl,q _ F H (.refl s) (.int _)⟩)
noncomputable def max2F:List D->Option D:=two2 fun i j=>if j>i then j else i
noncomputable def S3:List D->Option D:=two2 fun i j=>if j<i then j else i
theorem pd_max2 {x y:Expr}{p:Pos}{m:ML}(I:X.calm=true)(z:Gl X "max")(hm:X.mg "max"=none)(ha:PAs X [x,y] m)(G:starEach [x,y] X.env=(false,eval x X.env)::starEach [y] X.env:=by rfl)(q:(backTo pos (starEach [y] X.env)).any (·.1)=false:=by rfl):PD X (.Call (.Name "max" p) [x,y] [] pos) (f9 max2F m):=
 (U4 (call_max2 I) z hm PyProof.Rows.boot_max ha (by decide) (by decide) G q).imp fun _ _ _ h=>call_d (G0 (k:=fun i j=>if j>i then j else i)) h
theorem K2 {x y:Expr}{p:Pos}{m:ML}(I:X.calm=true)(z:Gl X "min")(hm:X.mg "min"=none)(ha:PAs X [x,y] m)(G:starEach [x,y] X.env=(false,eval x X.env)::starEach [y] X.env:=by rfl)(q:(backTo pos (starEach [y] X.env)).any (·.1)=false:=by rfl):PD X (.Call (.Name "min" p) [x,y] [] pos) (f9 S3 m):=
 (U4 (call_min2 I) z hm PyProof.Rows.boot_min ha (by decide) (by decide) G q).imp fun _ _ _ h=>call_d (G0 (k:=fun i j=>if j<i then j else i)) h
noncomputable def intF:List D->Option D
 |[.int i]=>some (.int i)
 |[.bl k]=>some (.int (if k then 1 else 0))
 |_=>none
end
end L2
namespace L2
open PySem PySem.Spec PyProof.Rows
inductive Out where
 |nx (ρ:Ro)|bk (ρ:Ro)|ct (ρ:Ro)|rt (d:D)|rf (ds:List D)|rp (d:D) (ds:List D)|rg (d:D) (p:Addr) (r:List D)|rgf (ds:List D) (p:Addr) (r:List D)
noncomputable abbrev MS:=Ro->Option Out
noncomputable def okO (K:PySem.W.Frag)(F0 H0 Fb:Hp)(Dn:Ends):Out->Prop
 | .nx ρ=>∀ F H σ,Rl K F0 H0 F H σ ρ->Same Fb F->Dn.nx σ H
 | .bk ρ=>∀ F H σ,Rl K F0 H0 F H σ ρ->Same Fb F->Dn.bk σ H
 | .ct ρ=>∀ F H σ,Rl K F0 H0 F H σ ρ->Same Fb F->Dn.ct σ H
 | .rt d=>∀ v F H,Ext F0 H0 F H->Rep K F v d->Dn.rt v H
 | .rf ds=>∀ p xs F H,Ext F0 H0 F H->H0 p=none->F p=none->H p=some (.lst xs)->Reps K F xs ds->Dn.rt (.ref p) H
 | .rp d ds=>∀ t v p xs F H,Ext F0 H0 F H->H0 t=none->H0 p=none->t≠p->F t=none->F p=none->H t=some (.tup [v,.ref p])->H p=some (.lst xs)->Rep K F v d->Reps K F xs ds->Dn.rt (.ref t) H
 | .rg d p r=>∀ v F H xs,Ext F0 H0 F H->Rep K F v d->F p=none->H p=some (.lst xs)->Reps K F xs r->Dn.rt v H
 | .rgf ds p r=>∀ q ys F H xs,Ext F0 H0 F H->H0 q=none->F q=none->q≠p->H q=some (.lst ys)->Reps K F ys ds->F p=none->H p=some (.lst xs)->Reps K F xs r->Dn.rt (.ref q) H
noncomputable def TSd (K:PySem.W.Frag)(m:MS):TS:=fun Dn σ H=>∃ F0 H0 F ρ o,Rl K F0 H0 F H σ ρ/\m ρ=some o/\okO K F0 H0 F Dn o
theorem okO.mono {K:PySem.W.Frag}{F0 H0 z j:Hp}{G:Ends}(s:Same z j):∀{o:Out},okO K F0 H0 z G o->okO K F0 H0 j G o
 | .nx _,h=>fun F H σ i q=>h F H σ i (s.trans q)
 | .bk _,h=>fun F H σ i q=>h F H σ i (s.trans q)
 | .ct _,h=>fun F H σ i q=>h F H σ i (s.trans q)
 | .rt _,h=>h
 | .rf _,h=>h
 | .rp _ _,h=>h
 | .rg _ _ _,h=>h
 | .rgf _ _ _,h=>h
noncomputable def PSd (X:Cx)(st:Stmt)(m:MS):Prop:=PS X st (TSd X.K m)
noncomputable def PSsd (X:Cx)(st:List Stmt)(m:MS):Prop:=PSs X st (TSd X.K m)
section
variable {X:Cx}{a b c e:Expr}{ma mb:ME}{pos:Pos}{st:Stmt}{rest:List Stmt}{m1 m2':MS}
theorem PS.imp {t t':TS}(h:PS X st t)(i:∀ D σ H,t' D σ H->t D σ H):PS X st t':=fun pins s σ H D I q=>h pins s σ H D I (i D σ H q)
theorem PSs.imp {j:List Stmt}{t t':TS}(h:PSs X j t)(i:∀ D σ H,t' D σ H->t D σ H):PSs X j t':=fun pins s σ H D I q=>h pins s σ H D I (i D σ H q)
noncomputable def j9:MS:=fun ρ=>some (.nx ρ)
noncomputable def mseq (x y:MS):MS:=fun ρ=>match x ρ with |some (.nx ρ')=>y ρ'|o=>o
theorem u5:PSsd X [] j9:=pss_nil.imp fun D σ H i=>by obtain⟨F0,H0,F,ρ,o,j,e,ok⟩:=i;cases e;exact ok F H σ j (Same.refl _)
theorem y4 (h1:PSd X st m1)(h2:PSsd X rest m2'):PSsd X (st::rest) (mseq m1 m2'):=(pss_cons h1 h2).imp fun D σ H j=>by
 obtain⟨F0,H0,F,ρ,o,i,e,ok⟩:=j
 unfold mseq at e
 cases h:m1 ρ with
 |none=>rw[h]at e;cases e
 |some I=>
  rw[h]at e
  cases I with
  |nx ρ1=>exact⟨F0,H0,F,ρ,_,i,h,fun F' H' z q G=>⟨F0,H0,F',ρ1,o,q,e,ok.mono G⟩⟩
  |bk ρ1=>cases e;exact⟨F0,H0,F,ρ,_,i,h,ok⟩
  |ct ρ1=>cases e;exact⟨F0,H0,F,ρ,_,i,h,ok⟩
  |rt d=>cases e;exact⟨F0,H0,F,ρ,_,i,h,ok⟩
  |rf d=>cases e;exact⟨F0,H0,F,ρ,_,i,h,ok⟩
  |rp d ds=>cases e;exact⟨F0,H0,F,ρ,_,i,h,ok⟩
  |rg d p r=>cases e;exact⟨F0,H0,F,ρ,_,i,h,ok⟩
  |rgf d p r=>cases e;exact⟨F0,H0,F,ρ,_,i,h,ok⟩
theorem y8 (h1:PSd X st m1):PSsd X [st] m1:=pss_one h1
noncomputable def mif (c:MB)(x y:MS):MS:=fun ρ=>match c ρ with |some true=>x ρ|some false=>y ρ|none=>none
theorem m9 {ca:MB}{x y:List Stmt}{mx z:MS}(J:PC' X c ca)(I:PSsd X x mx)(G:PSsd X y z):PSd X (.If c x y pos) (mif ca mx z):=(ps_if J I G).imp fun D σ H j=>by
 obtain⟨F0,H0,F,ρ,o,q,e,ok⟩:=j
 unfold mif at e
 split at e
 .rename_i h1
  refine⟨F0,H0,F,ρ,_,q,h1,fun F1 H1 i=>iteT ⟨F0,H0,F1,ρ,o,q.go i,e,ok.mono i.ff⟩⟩
 .rename_i h1
  refine⟨F0,H0,F,ρ,_,q,h1,fun F1 H1 i=>iteF ⟨F0,H0,F1,ρ,o,q.go i,e,ok.mono i.ff⟩⟩
 .cases e
noncomputable def D4:MS:=fun _=>none
theorem R5:PSd X st D4:=ps_never.imp fun D σ H i=>by obtain⟨F0,H0,F,ρ,o,j,e,ok⟩:=i;cases e
noncomputable def mset (i:Nat)(x:ME):MS:=fun ρ=>(x ρ).map fun d=>.nx (ρ.set i (some (.sh d)))
noncomputable def Z0 (i:Nat)(x:ML):MS:=fun ρ=>(x ρ).map fun ds=>.nx (ρ.set i (some (.own ds)))
theorem asg_d {t:TE}{i:Nat}(h:PS X st (tAsg t (V7 i)))(G:∀ σ H Q,TD X.K ma σ H Q->t σ H Q):PSd X st (mset i ma):=h.imp fun D σ H j=>by
 obtain⟨F0,H0,F,ρ,o,z,e,ok⟩:=j
 unfold mset at e
 cases h1:ma ρ with
 |none=>rw[h1]at e;cases e
 |some d=>
  rw[h1]at e;cases e
  exact G _ _ _ ⟨F0,H0,F,ρ,d,z,h1,fun v F1 H1 q r1=>ok F1 H1 _ ((z.go q).set r1) q.ff⟩
theorem asg_f {t:TE}{i:Nat}{mf:ML}(h:PS X st (tAsg t (V7 i)))(L:∀ σ H Q,TF X.K mf σ H Q->t σ H Q):PSd X st (Z0 i mf):=h.imp fun D σ H I=>by
 obtain⟨F0,H0,F,ρ,o,G,e,ok⟩:=I
 unfold Z0 at e
 cases h1:mf ρ with
 |none=>rw[h1]at e;cases e
 |some ds=>
  rw[h1]at e;cases e
  refine L _ _ _ ⟨F0,H0,F,ρ,ds,G,h1,fun p xs F1 H1 J hp N M r1=>ok F1 H1 _ ?_ J.ff⟩
  refine(G.go J).setOwn N M r1 (G.ext.hh.free hp) (fun j es O e1 e2=>?_) fun j q es e1 z=>?_
  .obtain⟨q,ys,a1,a2,a3,_⟩:=G.own j es e1
   rw[a1]at e2;cases e2
   rw[hp]at a3;cases a3
  .obtain⟨_,_,_,ys,a3,_⟩:=G.ob j q es e1
   rw[z,hp]at a3;cases a3
theorem n4 {i:Nat}{x:Str}{pos':Pos}(I:X.N.Nodup)(hi:X.N[i]? =some x)(j:Loc X.env.scope x)(G:PD X e ma)(q:swapsWith e (some (.Name x pos')) pos.line X.env=pure false:=by rfl)(z:X.fn x=true\/X.env.scope.names.lookup x=some .local:=by first|exact .inl rfl|exact .inr rfl|assumption):
  PSd X (.Assign [.Name x pos'] e pos) (mset i ma):=asg_d (ps_set I hi j G q z) fun _ _ _ h=>h
theorem Z8 {i:Nat}{x:Str}{pos':Pos}{mf:ML}(I:X.N.Nodup)(hi:X.N[i]? =some x)(j:Loc X.env.scope x)(G:PF X e mf)(q:swapsWith e (some (.Name x pos')) pos.line X.env=pure false:=by rfl)(z:X.fn x=true\/X.env.scope.names.lookup x=some .local:=by first|exact .inl rfl|exact .inr rfl|assumption):
  PSd X (.Assign [.Name x pos'] e pos) (Z0 i mf):=asg_f (ps_set I hi j G q z) fun _ _ _ h=>h
noncomputable def maug (i:Nat)(x:ME):MS:=fun ρ=>match ρ[i]? with |some (some (.sh (.int k)))=>(x ρ).bind (fun d=>match d with | .int j=>some (.nx (ρ.set i (some (.sh (.int (k+j))))))|_=>none)|_=>none
theorem psd_aug {i:Nat}{x:Str}{pos':Pos}(L:X.N.Nodup)(hi:X.N[i]? =some x)(G:Loc X.env.scope x)(J:PD X e ma)(I:X.fn x=true\/X.env.scope.names.lookup x=some .local:=by first|exact .inl rfl|exact .inr rfl|assumption):
  PSd X (.AugAssign (.Name x pos') .Add e pos) (maug i ma):=(ps_aug L hi G J ip_add I).imp fun D σ H j=>by
 obtain⟨F0,H0,F,ρ,o,q,e,ok⟩:=j
 unfold maug at e
 split at e
 .rename_i k h1
  obtain⟨v,e1,e2⟩:=q.sh i _ h1
  cases e2
  cases h2:ma ρ with
  |none=>rw[h2]at e;cases e
  |some d=>
   rw[h2]at e
   refine⟨_,e1,F0,H0,F,ρ,d,q,h2,fun y F1 H1 z r1=>?_⟩
   cases r1 <;> first| (cases e;done)|skip
   cases e
   exact⟨_,_,rfl,rfl,ok F1 H1 _ ((q.go z).set (.int _)) z.ff⟩
 .cases e
noncomputable def mexpr (x:ME):MS:=fun ρ=>(x ρ).map fun _=>.nx ρ
theorem N5 (G:PD X e ma)(z:swapsWith e none pos.line X.env=pure false:=by rfl):PSd X (.Expr e pos) (mexpr ma):=(ps_expr G z).imp fun D σ H i=>by
 obtain⟨F0,H0,F,ρ,o,q,e,ok⟩:=i
 unfold mexpr at e
 cases h1:ma ρ with
 |none=>rw[h1]at e;cases e
 |some d=>
  rw[h1]at e;cases e
  exact⟨F0,H0,F,ρ,d,q,h1,fun v F1 H1 j r1=>ok F1 H1 _ (q.go j) j.ff⟩
noncomputable def mret (x:ME):MS:=fun ρ=>(x ρ).map .rt
noncomputable def mretO (i:Nat):MS:=fun ρ=>match ρ[i]? with |some (some (.own ds))=>some (.rf ds)|some (some (.sh d))=>some (.rt d)|_=>none
theorem t7 (z:PD X e ma):PSd X (.Return (some e) pos) (mret ma):=(ps_ret z).imp fun D σ H i=>by
 obtain⟨F0,H0,F,ρ,o,j,e,ok⟩:=i
 unfold mret at e
 cases h1:ma ρ with
 |none=>rw[h1]at e;cases e
 |some d=>
  rw[h1]at e;cases e
  exact⟨F0,H0,F,ρ,d,j,h1,fun v F1 H1 q r1=>ok v F1 H1 (j.ext.trans q) r1⟩
theorem psd_retO (i:Nat){x:Str}{pos':Pos}(h:PE X (.Name x pos') (tVar i)):PSd X (.Return (some (.Name x pos')) pos) (mretO i):=(ps_ret h).imp fun D σ H j=>by
 obtain⟨F0,H0,F,ρ,o,q,e,ok⟩:=j
 unfold mretO at e
 split at e
 .rename_i ds h1
  cases e
  obtain⟨p,xs,e1,e2,e3,G,z⟩:=q.own i _ h1
  exact⟨_,e1,ok p xs F H q.ext z e2 e3 G⟩
 .rename_i d h1
  cases e
  obtain⟨v,e1,e2⟩:=q.sh i _ h1
  exact⟨_,e1,ok v F H q.ext e2⟩
 .cases e
noncomputable def mapp (i:Nat)(x:ME):MS:=fun ρ=>match ρ[i]? with |some (some (.own ds))=>(x ρ).bind fun d=>if ds.length<sizeLine then some (.nx (ρ.set i (some (.own (ds++[d])))))else none|_=>none
theorem P5 {i:Nat}{x:Str}{e:Expr}{z apos cpos:Pos}(N:PE X (.Name x z) (tVar i))(O:PD X e ma)
  (L:∀ t,PA X [e] t->PE X (.Call (.Attribute (.Name x z) "append" apos) [e] [] cpos) (tBM X.K "list" rAppend (tVar i) t)) (M:PAs X [e] (y0 ma anil)) (J:swapsWith (.Call (.Attribute (.Name x z) "append" apos) [e] [] cpos) none pos.line X.env=pure false:=by rfl):
  PSd X (.Expr (.Call (.Attribute (.Name x z) "append" apos) [e] [] cpos) pos) (mapp i ma):=(ps_expr (L _ M) J).imp fun D σ H j=>by
 obtain⟨F0,H0,F,ρ,o,G,e,ok⟩:=j
 unfold mapp at e
 split at e
 .rename_i ds h1
  obtain⟨p,xs,e1,e2,e3,I,R⟩:=G.own i _ h1
  cases h2:ma ρ with
  |none=>rw[h2]at e;cases e
  |some d=>
   rw[h2]at e
   have e:(if ds.length<sizeLine then some (Out.nx (ρ.set i (some (.own (ds++[d])))))else none)=some o:=e
   split at e
   .rename_i hz
    cases e
    refine⟨_,e1,.inl ⟨rfl,_,SqL.of e3⟩,F0,H0,F,ρ,[d],G,by unfold y0 anil;rw[h2];rfl,fun vs F1 H1 q r1=>?_⟩
    cases r1 with
    |cons r rr=>
     cases rr
     have hp:H1 p=some (.lst xs):=q.hh _ _ e3
     exact⟨p,xs,_,rfl,rfl,hp,by rw[I.length];exact hz,ok F1 _ σ ((G.go q).write h1 e1 ((I.mono q.ff).append (.cons r .nil))) q.ff⟩
   .cases e
 .cases e
noncomputable def f6 (i:Nat)(ix v:ME):MS:=fun ρ=>(v ρ).bind fun d=>match ρ[i]? with
 |some (some (.own ds))=>(ix ρ).bind (fun x=>match x with | .int k=>(ixN ds.length k).map fun j=>.nx (ρ.set i (some (.own (ds.set j d))))|_=>none)
 |some (some (.ob p ds))=>(ix ρ).bind (fun x=>match x with | .int k=>(ixN ds.length k).map fun j=>.nx (ρ.set i (some (.ob p (ds.set j d))))|_=>none)
 |_=>none
theorem i7 {i:Nat}(O:PS X st (tAsg (TD X.K mb) (gSub (tVar i) (TD X.K ma) rSetL))):PSd X st (f6 i ma mb):=O.imp fun D σ H L=>by
 obtain⟨F0,H0,F,ρ,o,J,e,ok⟩:=L
 unfold f6 at e
 cases h1:mb ρ with
 |none=>rw[h1]at e;cases e
 |some d=>
  rw[h1]at e
  refine⟨F0,H0,F,ρ,d,J,h1,fun y F1 H1 G r1=>?_⟩
  dsimp only[Option.bind]at e
  split at e
  .rename_i ds h2
   obtain⟨p,xs,e1,e2,e3,M,R⟩:=(J.go G).own i _ h2
   cases h3:ma ρ with
   |none=>rw[h3]at e;cases e
   |some N=>
    rw[h3]at e
    refine⟨_,e1,F0,H0,F1,ρ,N,J.go G,h3,fun z F2 H2 q r2=>?_⟩
    cases r2 <;> first| (cases e;done)|skip
    rename_i k
    have e:(ixN ds.length k).map (fun j=>Out.nx (ρ.set i (some (.own (ds.set j d)))))=some o:=e
    cases h4:ixN ds.length k with
    |none=>rw[h4]at e;cases e
    |some j=>
     rw[h4]at e;cases e
     have I:=(J.go G).go q
     refine⟨p,xs,k,j,rfl,rfl,q.hh _ _ e3,by rw[M.length];exact h4,ok F2 _ σ (I.write h2 e1 (Reps.set (r1.mono q.ff) j (M.mono q.ff))) (G.ff.trans q.ff)⟩
  .rename_i p ds h2
   obtain⟨e1,e2,R,xs,e3,M⟩:=(J.go G).ob i p _ h2
   cases h3:ma ρ with
   |none=>rw[h3]at e;cases e
   |some N=>
    rw[h3]at e
    refine⟨_,e1,F0,H0,F1,ρ,N,J.go G,h3,fun z F2 H2 q r2=>?_⟩
    cases r2 <;> first| (cases e;done)|skip
    rename_i k
    have e:(ixN ds.length k).map (fun j=>Out.nx (ρ.set i (some (.ob p (ds.set j d)))))=some o:=e
    cases h4:ixN ds.length k with
    |none=>rw[h4]at e;cases e
    |some j=>
     rw[h4]at e;cases e
     have I:=(J.go G).go q
     refine⟨p,xs,k,j,rfl,rfl,q.hh _ _ e3,by rw[M.length];exact h4,ok F2 _ σ (I.writeB h2 (Reps.set (r1.mono q.ff) j (M.mono q.ff))) (G.ff.trans q.ff)⟩
  .cases e
noncomputable def e9 (i:Nat)(m:MS):MS:=fun ρ=>match ρ[i]? with |some (some (.own ds))=>m (ρ.set i (some (.sh (.lst ds))))|_=>m ρ
theorem j8 (i:Nat){j:List Stmt}{m:MS}(h:PSsd X j m):PSsd X j (e9 i m):=h.imp fun D σ H q=>by
 obtain⟨F0,H0,F,ρ,o,G,e,ok⟩:=q
 unfold e9 at e
 split at e
 .rename_i ds h1
  obtain⟨F',z,I⟩:=G.freeze h1
  exact⟨F0,H0,F',_,o,z,e,ok.mono I⟩
 .exact⟨F0,H0,F,ρ,o,G,e,ok⟩
inductive Tg where
 |nm (i:Nat)|tp (is:List Nat)|nt (i:Nat) (is:List Nat)
noncomputable def M9:List Nat->List D->Ro->Option Ro
 |[],[],ρ=>some ρ
 |i::is,d::ds,ρ=>M9 is ds (ρ.set i (some (.sh d)))
 |_,_,_=>none
noncomputable def tgD:Tg->D->Ro->Option Ro
 | .nm i,d,ρ=>some (ρ.set i (some (.sh d)))
 | .tp is,.tup ds,ρ=>M9 is ds ρ
 | .nt i is,.tup [d,.tup ds],ρ=>M9 is ds (ρ.set i (some (.sh d)))
 |_,_,_=>none
noncomputable def TGd (K:PySem.W.Frag)(g:Tg):TG:=fun v σ H Q=>∃ F0 H0 F ρ d ρ',Rl K F0 H0 F H σ ρ/\Rep K F v d/\tgD g d ρ=some ρ'/\∀ F' H' σ',Rl K F0 H0 F' H' σ' ρ'->Ext F H F' H'->Q σ' H'
noncomputable def PGd (X:Cx)(tg:Expr)(g:Tg):Prop:=PG X tg (TGd X.K g)
theorem PG.imp {tg:Expr}{t t':TG}(h:PG X tg t)(i:∀ v σ H Q,t' v σ H Q->t v σ H Q):PG X tg t':=fun pins s σ H v u Q I r q=>h pins s σ H v u Q I r (i v σ H Q q)
theorem p4 {i:Nat}{x:Str}{pos:Pos}(h:PG X (.Name x pos) (V7 i)):PGd X (.Name x pos) (.nm i):=PG.imp h fun v σ H Q j=>by
 obtain⟨F0,H0,F,ρ,d,ρ',z,r,e,q⟩:=j
 cases e;exact q F H _ (z.set r) (.refl z.fh)
noncomputable def gAll:List Nat->TGs
 |[]=>gNil
 |i::is=>gCons (V7 i) (gAll is)
theorem gAll_ok {K:PySem.W.Frag}{F0 H0 F H:Hp}{Q:St->Hp->Prop}:∀(is:List Nat)(vs:List V)(ds:List D)(σ:St)(ρ ρ':Ro),Rl K F0 H0 F H σ ρ->Reps K F vs ds->M9 is ds ρ=some ρ'->(∀ j,Rl K F0 H0 F H j ρ'->Q j H)->gAll is vs σ H Q
 |[],_,[],σ,ρ,ρ',rl,r,e,q=>by cases r;cases e;exact⟨rfl,q σ rl⟩
 |[],_,_::_,_,_,_,_,_,e,_=>by cases e
 |_::_,_,[],_,_,_,_,_,e,_=>by cases e
 |i::is,_,d::ds,σ,ρ,ρ',rl,r,e,q=>by
  cases r with
  |cons r rr=>exact⟨_,_,rfl,gAll_ok is _ ds _ _ ρ' (rl.set r) rr e q⟩
theorem D0:∀(is:List Nat)(ds:List D)(ρ ρ':Ro),M9 is ds ρ=some ρ'->ds.length=is.length
 |[],[],_,_,_=>rfl
 |[],_::_,_,_,e=>by cases e
 |_::_,[],_,_,e=>by cases e
 |_::is,_::ds,ρ,ρ',e=>congrArg (·+1) (D0 is ds _ ρ' e)
theorem b0 {es:List Expr}{k n:Nat}{is:List Nat}{pos:Pos}(h:PG X (.Tuple es k pos) (gTup X.K n (gAll is)))(hn:is.length=n:=by rfl):PGd X (.Tuple es k pos) (.tp is):=PG.imp h fun v σ H Q i=>by
 obtain⟨F0,H0,F,ρ,d,ρ',G,r,e,q⟩:=i
 cases r with
 |tup s t=>exact⟨_,_,rfl,G.fh.seqT s,by rw[t.length,D0 _ _ _ _ e,hn],gAll_ok is _ _ σ ρ ρ' G t e fun j z=>q F H j z (.refl G.fh)⟩
 |_=>cases e
noncomputable def masg (g:Tg)(x:ME):MS:=fun ρ=>(x ρ).bind fun d=>(tgD g d ρ).map .nx
theorem L6 {g:Tg}(h:PS X st (tAsg (TD X.K ma) (TGd X.K g))):PSd X st (masg g ma):=h.imp fun D σ H i=>by
 obtain⟨F0,H0,F,ρ,o,G,e,ok⟩:=i
 unfold masg at e
 cases h1:ma ρ with
 |none=>rw[h1]at e;cases e
 |some d=>
  rw[h1]at e
  have e:(tgD g d ρ).map Out.nx=some o:=e
  cases h2:tgD g d ρ with
  |none=>rw[h2]at e;cases e
  |some ρ'=>
   rw[h2]at e;cases e
   exact⟨F0,H0,F,ρ,d,G,h1,fun v F1 H1 z r1=>⟨F0,H0,F1,ρ,d,ρ',G.go z,r1,h2,fun F' H' j q I=>ok F' H' j q (z.ff.trans I.ff)⟩⟩
structure ItD (K:PySem.W.Frag)(F:Hp)(J:It)(its:List D):Prop where
 go:∀(i:Nat) F1 H1,Same F F1->Same F1 H1->i<its.length->J.go i H1
 yld:∀(i:Nat) F1 H1 x H2 d,Same F F1->Same F1 H1->its[i]? =some d->J.yld i H1 x H2->∃ F2,Ext F1 H1 F2 H2/\Rep K F2 x d
 stop:∀ F1 H1,Same F F1->Same F1 H1->J.stop its.length H1
noncomputable def TId (K:PySem.W.Frag)(mi:ML):TI:=fun σ H R=>∃ F0 H0 F ρ its,Rl K F0 H0 F H σ ρ/\mi ρ=some its/\∀ J F' H',Ext F H F' H'->ItD K F' J its->R J H'
noncomputable def PId (X:Cx)(tg iter:Expr)(mi:ML):Prop:=PI X tg iter (TId X.K mi)
theorem PI.imp {tg it:Expr}{t t':TI}(h:PI X tg it t)(i:∀ σ H R,t' σ H R->t σ H R):PI X tg it t':=fun pins s σ H R I q=>h pins s σ H R I (i σ H R q)
theorem itd_list {K:PySem.W.Frag}{F:Hp}{p:Addr}{xs:List V}{ds:List D}(s:SqL K F p xs)(r:Reps K F xs ds):ItD K F (Itl K p) ds where
 go:=fun i F1 H1 a b hi=>by
  obtain⟨v,e,_⟩:=r.get (List.getElem?_eq_getElem hi)
  exact⟨xs,v,b.seq (a.seq s),e⟩
 yld:=fun i F1 H1 x H2 d a b e y=>by
  obtain⟨rfl,y⟩:=y
  obtain⟨v,e1,e2⟩:=r.get e
  have:=y xs (b.seq (a.seq s))
  rw[e1]at this;cases this
  exact⟨F1,.refl b,e2.mono a⟩
 stop:=fun F1 H1 a b=>⟨xs,b.seq (a.seq s),by rw[r.length];exact Nat.le_refl _⟩
theorem T6 {tg:Expr}(hd:PD X e ma):PId X tg e (p6 ma):=PI.imp (pi_list hd) fun σ H R i=>by
 obtain⟨F0,H0,F,ρ,its,z,e,q⟩:=i
 unfold p6 at e
 split at e
 .rename_i ds h1
  cases e
  refine⟨F0,H0,F,ρ,_,z,h1,fun v F1 H1 j r1=>?_⟩
  cases r1 with
  |lst s t=>exact⟨_,rfl,⟨_,j.fh.seq s⟩,q _ F1 H1 j (itd_list s t)⟩
 .cases e
noncomputable def W4 (lo:Int)(n:Nat):List D:=(List.range n).map fun(i:Nat)=>D.int (lo+(i:Int))
theorem R3 (lo:Int)(n:Nat):(W4 lo n).length=n:=by unfold W4;simp
theorem itd_range {K:PySem.W.Frag}{F:Hp}{lo:Int}{n:Nat}:ItD K F (Itr lo n) (W4 lo n) where
 go:=fun i F1 H1 a b hi=>by rw[R3]at hi;exact hi
 yld:=fun i F1 H1 x H2 d a b e y=>by
  obtain⟨rfl,rfl⟩:=y
  unfold W4 at e
  rw[List.getElem?_map]at e
  have hi:i<n:=by
   rcases Nat.lt_or_ge i n with h|h
   .exact h
   .rw[List.getElem?_eq_none (by simpa using h)]at e;cases e
  rw[List.getElem?_range hi]at e
  cases e
  exact⟨F1,.refl b,.int _⟩
 stop:=fun F1 H1 a b=>by rw[R3];exact Nat.le_refl n
noncomputable def okR (j:Int):Bool:=decide (-(2^62)<=j)&&decide (j<2^62)
noncomputable def rng1:List D->Option (List D)
 |[.int j]=>if okR j=true then some (W4 0 j.toNat)else none
 |_=>none
noncomputable def rng2:List D->Option (List D)
 |[.int i,.int j]=>if (okR i&&okR j)=true then some (W4 i (j-i).toNat)else none
 |_=>none
@[irreducible] noncomputable def p8 (f:List D->Option (List D))(m:ML):ML:=fun ρ=>(m ρ).bind f
theorem c7 {f:List D->Option (List D)}{m:ML}{ρ:Ro}{i:List D}(h:p8 f m ρ=some i):∃ ds,m ρ=some ds/\f ds=some i:=by
 unfold p8 at h
 cases h1:m ρ with
 |none=>rw[h1]at h;cases h
 |some ds=>rw[h1]at h;exact⟨ds,rfl,h⟩
theorem Y5 {tg a:Expr}{m:ML}{p pos:Pos}(J:Gl X "range")(hm:X.mg "range"=none)(ha:PAs X [a] m)(I:starEach [a] X.env=[(false,eval a X.env)]:=by rfl):PId X tg (.Call (.Name "range" p) [a] [] pos) (p8 rng1 m):=PI.imp (pi_range1 J hm ha I) fun σ H R i=>by
 obtain⟨F0,H0,F,ρ,its,G,e,q⟩:=i
 obtain⟨ds,h1,h2⟩:=c7 e
 refine⟨F0,H0,F,ρ,ds,G,h1,fun vs F1 H1 z r1=>?_⟩
 unfold rng1 at h2
 split at h2
 .rename_i j
  split at h2
  .rename_i hk
   cases h2
   unfold okR at hk
   simp only[Bool.and_eq_true,decide_eq_true_eq]at hk
   cases r1 with
   |cons r rr=>
    cases rr;cases r
    exact⟨j,rfl,hk.1,hk.2,q _ F1 H1 z itd_range⟩
  .cases h2
 .cases h2
theorem Y4 {tg a b:Expr}{m:ML}{p pos:Pos}(M:Gl X "range")(hm:X.mg "range"=none)(ha:PAs X [a,b] m)(L:starEach [a,b] X.env=[(false,eval a X.env),(false,eval b X.env)]:=by rfl)(G:starEach [b] X.env=[(false,eval b X.env)]:=by rfl):PId X tg (.Call (.Name "range" p) [a,b] [] pos) (p8 rng2 m):=PI.imp (pi_range2 M hm ha L G) fun σ H R z=>by
 obtain⟨F0,H0,F,ρ,its,J,e,q⟩:=z
 obtain⟨ds,h1,h2⟩:=c7 e
 refine⟨F0,H0,F,ρ,ds,J,h1,fun vs F1 H1 I r1=>?_⟩
 unfold rng2 at h2
 split at h2
 .rename_i i j
  split at h2
  .rename_i hk
   cases h2
   unfold okR at hk
   simp only[Bool.and_eq_true,decide_eq_true_eq]at hk
   cases r1 with
   |cons r rr=>
    cases rr with
    |cons r2 rr=>
     cases rr;cases r;cases r2
     exact⟨i,j,rfl,⟨hk.1.1,hk.1.2,hk.2.1,hk.2.2⟩,q _ F1 H1 I itd_range⟩
  .cases h2
 .cases h2
noncomputable def zip2:List D->Option (List D)
 |[.lst ds,.lst es]=>some (List.zipWith (fun d e=>.tup [d,e]) ds es)
 |_=>none
theorem itd_zip2 {K:PySem.W.Frag}{F:Hp}{p q:Addr}{xs ys:List V}{ds es:List D}(s:SqL K F p xs)(r:Reps K F xs ds)(s':SqL K F q ys)(G:Reps K F ys es):ItD K F (Itz2 K p q) (List.zipWith (fun d e=>D.tup [d,e]) ds es) where
 go:=fun i F1 H1 a b hi=>by
  rw[List.length_zipWith]at hi
  obtain⟨v,e,_⟩:=r.get (List.getElem?_eq_getElem (show i<ds.length by omega))
  obtain⟨w,L,_⟩:=G.get (List.getElem?_eq_getElem (show i<es.length by omega))
  exact⟨xs,ys,v,w,b.seq (a.seq s),b.seq (a.seq s'),e,L⟩
 yld:=fun i F1 H1 x H2 d a b e y=>by
  obtain⟨t,u,v,rfl,J,rfl,z,j⟩:=y
  have z:=z xs (b.seq (a.seq s))
  have j:=j ys (b.seq (a.seq s'))
  obtain⟨N,e1,r1⟩:=r.get' z
  obtain⟨M,e2,r2⟩:=G.get' j
  rw[List.getElem?_zipWith,e1,e2]at e
  cases e
  refine⟨upd F1 t (.tup [u,v]),Ext.laid b J,.tup (SqT.of x8) ?_⟩
  have I:Same F (upd F1 t (.tup [u,v])):=a.trans ((Same.refl F1).put (b.free J))
  exact .cons (r1.mono I) (.cons (r2.mono I) .nil)
 stop:=fun F1 H1 a b=>⟨xs,ys,b.seq (a.seq s),b.seq (a.seq s'),by rw[r.length,G.length,List.length_zipWith];omega⟩
theorem pid_zip2 {es:List Expr}{tk:Nat}{tp:Pos}{a b:Expr}{m:ML}{p pos:Pos}(L:Gl X "zip")(hm:X.mg "zip"=none)(ha:PAs X [a,b] m)(J:starEach [a,b] X.env=[(false,eval a X.env),(false,eval b X.env)]:=by rfl)(z:starEach [b] X.env=[(false,eval b X.env)]:=by rfl):PId X (.Tuple es tk tp) (.Call (.Name "zip" p) [a,b] [] pos) (p8 zip2 m):=PI.imp (pi_zip2 L hm ha J z) fun σ H R i=>by
 obtain⟨F0,H0,F,ρ,its,I,e,q⟩:=i
 obtain⟨ds,h1,h2⟩:=c7 e
 refine⟨F0,H0,F,ρ,ds,I,h1,fun vs F1 H1 j r1=>?_⟩
 unfold zip2 at h2
 split at h2
 .cases h2
  cases r1 with
  |cons r rr=>
   cases rr with
   |cons r2 rr=>
    cases rr
    cases r with
    |lst s t=>
     cases r2 with
     |lst s2 G=>exact⟨_,_,_,_,rfl,j.fh.seq s,j.fh.seq s2,q _ F1 H1 j (itd_zip2 s t s2 G)⟩
 .cases h2
noncomputable def N1:List D->List D->List D->List D
 |d::ds,e::es,f::fs=>.tup [d,e,f]::N1 ds es fs
 |_,_,_=>[]
theorem W9:∀ ds es fs,(N1 ds es fs).length=min ds.length (min es.length fs.length)
 |[],_,_=>by simp[N1]
 |_::_,[],_=>by simp[N1]
 |_::_,_::_,[]=>by simp[N1]
 |_::ds,_::es,_::fs=>by simp only[N1,List.length_cons,W9 ds es fs];omega
theorem zipW3_get:∀ ds es fs (i:Nat) d e f,ds[i]? =some d->es[i]? =some e->fs[i]? =some f->(N1 ds es fs)[i]? =some (.tup [d,e,f])
 |[],_,_,_,_,_,_,h,_,_=>by simp at h
 |_::_,[],_,_,_,_,_,_,h,_=>by simp at h
 |_::_,_::_,[],_,_,_,_,_,_,h=>by simp at h
 |_::ds,_::es,_::fs,0,d,e,f,h1,h2,h3=>by simp at h1 h2 h3;subst h1 h2 h3;rfl
 |_::ds,_::es,_::fs,i+1,d,e,f,h1,h2,h3=>by
  have:=zipW3_get ds es fs i d e f (by simpa using h1) (by simpa using h2) (by simpa using h3)
  simpa[N1]using this
noncomputable def zip3:List D->Option (List D)
 |[.lst ds,.lst es,.lst fs]=>some (N1 ds es fs)
 |_=>none
theorem itd_zip3 {K:PySem.W.Frag}{F:Hp}{p q o:Addr}{xs ys zs:List V}{ds es fs:List D}(s:SqL K F p xs)(r:Reps K F xs ds)(s':SqL K F q ys)(L:Reps K F ys es)(j:SqL K F o zs)(z:Reps K F zs fs):ItD K F (Itz3 K p q o) (N1 ds es fs) where
 go:=fun i F1 H1 a b hi=>by
  rw[W9]at hi
  obtain⟨v,e,_⟩:=r.get (List.getElem?_eq_getElem (show i<ds.length by omega))
  obtain⟨w,S,_⟩:=L.get (List.getElem?_eq_getElem (show i<es.length by omega))
  obtain⟨u,N,_⟩:=z.get (List.getElem?_eq_getElem (show i<fs.length by omega))
  exact⟨xs,ys,zs,v,w,u,b.seq (a.seq s),b.seq (a.seq s'),b.seq (a.seq j),e,S,N⟩
 yld:=fun i F1 H1 x H2 d a b e y=>by
  obtain⟨t,u,v,w,rfl,O,rfl,J,I,G⟩:=y
  have J:=J xs (b.seq (a.seq s))
  have I:=I ys (b.seq (a.seq s'))
  have G:=G zs (b.seq (a.seq j))
  obtain⟨Z,e1,r1⟩:=r.get' J
  obtain⟨Y,e2,r2⟩:=L.get' I
  obtain⟨U,e3,R⟩:=z.get' G
  rw[zipW3_get _ _ _ i Z Y U e1 e2 e3]at e
  cases e
  refine⟨upd F1 t (.tup [u,v,w]),Ext.laid b O,.tup (SqT.of x8) ?_⟩
  have M:Same F (upd F1 t (.tup [u,v,w])):=a.trans ((Same.refl F1).put (b.free O))
  exact .cons (r1.mono M) (.cons (r2.mono M) (.cons (R.mono M) .nil))
 stop:=fun F1 H1 a b=>⟨xs,ys,zs,b.seq (a.seq s),b.seq (a.seq s'),b.seq (a.seq j),by rw[r.length,L.length,z.length,W9];omega⟩
theorem pid_zip3 {es:List Expr}{tk:Nat}{tp:Pos}{a b c:Expr}{m:ML}{p pos:Pos}(O:Gl X "zip")(hm:X.mg "zip"=none)(ha:PAs X [a,b,c] m)(N:starEach [a,b,c] X.env=(false,eval a X.env)::starEach [b,c] X.env:=by rfl)(z:∀ pos,((backTo pos (starEach [b,c] X.env)).any fun x=>x.1)=false:=by intro _;rfl):PId X (.Tuple es tk tp) (.Call (.Name "zip" p) [a,b,c] [] pos) (p8 zip3 m):=PI.imp (pi_zip3 O hm ha N z) fun σ H R i=>by
 obtain⟨F0,H0,F,ρ,its,L,e,q⟩:=i
 obtain⟨ds,h1,h2⟩:=c7 e
 refine⟨F0,H0,F,ρ,ds,L,h1,fun vs F1 H1 j r1=>?_⟩
 unfold zip3 at h2
 split at h2
 .cases h2
  cases r1 with
  |cons r rr=>
   cases rr with
   |cons r2 rr=>
    cases rr with
    |cons M rr=>
    cases rr
    cases r with
    |lst s t=>
     cases r2 with
     |lst s2 J=>
      cases M with
      |lst G I=>exact⟨_,_,_,_,_,_,rfl,j.fh.seq s,j.fh.seq s2,j.fh.seq G,q _ F1 H1 j (itd_zip3 s t s2 J G I)⟩
 .cases h2
noncomputable def V9:Nat->List D->List D
 |_,[]=>[]
 |i,d::ds=>.tup [.int i,d]::V9 (i+1) ds
theorem V8:∀ i ds,(V9 i ds).length=ds.length
 |_,[]=>rfl
 |i,_::ds=>by simp[V9,V8 (i+1) ds]
theorem enumL_get:∀(k:Nat) ds (i:Nat) d,ds[i]? =some d->(V9 k ds)[i]? =some (.tup [.int ((k+i:Nat):Int),d])
 |_,[],_,_,h=>by simp at h
 |k,_::ds,0,d,h=>by simp at h;subst h;rfl
 |k,_::ds,i+1,d,h=>by
  have:=enumL_get (k+1) ds i d (by simpa using h)
  have e:k+1+i=k+(i+1):=by omega
  rw[e]at this
  simpa[V9]using this
noncomputable def E2:List D->Option (List D)
 |[.lst ds]=>some (V9 0 ds)
 |_=>none
theorem itd_enum {K:PySem.W.Frag}{F:Hp}{p:Addr}{xs:List V}{ds:List D}(s:SqL K F p xs)(r:Reps K F xs ds):ItD K F (Ite K p) (V9 0 ds) where
 go:=fun i F1 H1 a b hi=>by
  rw[V8]at hi
  obtain⟨v,e,_⟩:=r.get (List.getElem?_eq_getElem hi)
  exact⟨xs,v,b.seq (a.seq s),e⟩
 yld:=fun i F1 H1 x H2 d a b e y=>by
  obtain⟨t,u,rfl,q,rfl,j⟩:=y
  have j:=j xs (b.seq (a.seq s))
  obtain⟨G,e1,r1⟩:=r.get' j
  rw[enumL_get 0 ds i G e1,Nat.zero_add]at e
  cases e
  refine⟨upd F1 t (.tup [.int i,u]),Ext.laid b q,.tup (SqT.of x8) ?_⟩
  have z:Same F (upd F1 t (.tup [.int i,u])):=a.trans ((Same.refl F1).put (b.free q))
  exact .cons (.int _) (.cons (r1.mono z) .nil)
 stop:=fun F1 H1 a b=>⟨xs,b.seq (a.seq s),by rw[r.length,V8];exact Nat.le_refl _⟩
theorem N6 {es:List Expr}{tk:Nat}{tp:Pos}{a:Expr}{m:ML}{p pos:Pos}(I:Gl X "enumerate")(hm:X.mg "enumerate"=none)(ha:PAs X [a] m)(G:starEach [a] X.env=[(false,eval a X.env)]:=by rfl):PId X (.Tuple es tk tp) (.Call (.Name "enumerate" p) [a] [] pos) (p8 E2 m):=PI.imp (pi_enum I hm ha G) fun σ H R i=>by
 obtain⟨F0,H0,F,ρ,its,z,e,q⟩:=i
 obtain⟨ds,h1,h2⟩:=c7 e
 refine⟨F0,H0,F,ρ,ds,z,h1,fun vs F1 H1 j r1=>?_⟩
 unfold E2 at h2
 split at h2
 .cases h2
  cases r1 with
  |cons r rr=>
   cases rr
   cases r with
   |lst s t=>exact⟨_,_,rfl,j.fh.seq s,q _ F1 H1 j (itd_enum s t)⟩
 .cases h2
end
end L2
namespace L2
open PySem PySem.Spec PyProof.Rows
noncomputable def forD (g:Tg)(body:MS):List D->MS
 |[],ρ=>some (.nx ρ)
 |d::ds,ρ=>match tgD g d ρ with
  |some ρ1=>match body ρ1 with
   |some (.nx ρ2)=>forD g body ds ρ2
   |some (.ct ρ2)=>forD g body ds ρ2
   |some (.bk ρ2)=>some (.nx ρ2)
   |o=>o
  |none=>none
noncomputable def mfor (mi:ML)(g:Tg)(body:MS):MS:=fun ρ=>(mi ρ).bind fun its=>forD g body its ρ
theorem j7 {j:Type}{xs:List j}{i:Nat}{d:j}(h:xs[i]? =some d):xs.drop i=d::xs.drop (i+1):=by
 obtain⟨q,e⟩:=List.getElem?_eq_some_iff.mp h
 rw[List.drop_eq_getElem_cons q,e]
section
variable {X:Cx}{a b c e:Expr}{ma mb:ME}{pos:Pos}{st:Stmt}{rest:List Stmt}
theorem c8 {tg iter:Expr}{body:List Stmt}{mi:ML}{g:Tg}{mb:MS}(hp:PassesOwn (model X.prog X.w) X.A X.env X.xe)(hc:X.calm=true)(hi:PId X tg iter mi)(hg:PGd X tg g)(hb:PSsd X body mb)
  (hs:∀ x,foldedSetIterable iter X.env x=pure x:=by intro _;rfl):PSd X (.For tg iter body [] pos) (mfor mi g mb):=(ps_for hp hc hi hg hb hs).imp fun Dn σ H U=>by
 obtain⟨F0,H0,F,ρ,o,rl,e,ok⟩:=U
 unfold mfor at e
 cases h1:mi ρ with
 |none=>rw[h1]at e;cases e
 |some its=>
  rw[h1]at e
  have e:forD g mb its ρ=some o:=e
  refine⟨F0,H0,F,ρ,its,rl,h1,fun J F1 H1 x1 I=>?_⟩
  refine⟨fun i m M H'=>∃ F' ρ',Rl X.K F0 H0 F' H' M ρ'/\Same F1 F'/\i<=its.length/\m=its.length-i/\forD g mb (its.drop i) ρ'=some o,⟨_,F1,ρ,rl.go x1,Same.refl _,Nat.zero_le _,rfl,e⟩,?_⟩
  rintro i m M H' ⟨F',ρ',G,R,a2,rfl,j⟩
  by_cases N:i<its.length
  .right
   have hd:=List.getElem?_eq_getElem N
   refine⟨I.go i F' H' R G.fh N,fun O H2=>∃ F2 q,Rl X.K F0 H0 F2 H2 O q/\Same F1 F2/\forD g mb (its.drop (i+1)) q=some o,?_,fun x H2 y=>?_⟩
   .rintro O H2 ⟨F2,q,rl2,sf2,e2⟩
    exact⟨its.length-(i+1),by omega,F2,q,rl2,sf2,N,rfl,e2⟩
   .obtain⟨F2,x2,r2⟩:=I.yld i F' H' x H2 _ R G.fh hd y
    rw[j7 hd]at j
    unfold forD at j
    cases h2:tgD g its[i] ρ' with
    |none=>simp only[h2]at j;cases j
    |some ρ1=>
     simp only[h2]at j
     refine⟨F0,H0,F2,ρ',_,ρ1,G.go x2,r2,h2,fun F3 H3 a1 a0 x3=>?_⟩
     have s3:Same F1 F3:=(R.trans x2.ff).trans x3.ff
     cases h3:mb ρ1 with
     |none=>simp only[h3]at j;cases j
     |some o1=>
      simp only[h3]at j
      refine⟨F0,H0,F3,ρ1,o1,a0,h3,?_⟩
      cases o1 with
      |nx q=>exact fun Z H4 L z S=>⟨Z,q,z,s3.trans S,j⟩
      |ct q=>exact fun Z H4 L z S=>⟨Z,q,z,s3.trans S,j⟩
      |bk q=>
       cases j
       exact fun Z H4 L z S=>ok Z H4 L z ((x1.ff.trans s3).trans S)
      |rt d=>cases j;exact ok
      |rf d=>cases j;exact ok
      |rp d ds=>cases j;exact ok
      |rg d p r=>cases j;exact ok
      |rgf d p r=>cases j;exact ok
  .left
   have Y:i=its.length:=by omega
   subst Y
   rw[List.drop_length]at j
   have j:some (Out.nx ρ')=some o:=j
   cases j
   exact⟨I.stop F' H' R G.fh,ok F' H' M G (x1.ff.trans R)⟩
end
end L2
namespace L2
open PySem PySem.Spec PyProof.Rows
noncomputable def d5 (src:List (Option Nat))(ρ:Ro):Ro:=src.map fun o=>o.bind fun i=>match ρ[i]? with |some (some (.sh d))=>some (.sh d)|_=>none
noncomputable def d9 (g:Tg)(c:MB)(elt:ME):List D->Ro->List D->Option (List D)
 |[],_,acc=>some acc
 |d::ds,ρ,acc=>match tgD g d ρ with
  |some ρ1=>match c ρ1 with
   |some true=>match elt ρ1 with
    |some x=>if acc.length<sizeLine then d9 g c elt ds ρ1 (acc++[x])else none
    |none=>none
   |some false=>d9 g c elt ds ρ1 acc
   |none=>none
  |none=>none
@[irreducible] noncomputable def i6 (src:List (Option Nat))(mi:ML)(g:Tg)(c:MB)(elt:ME):ML:=fun ρ=>(mi ρ).bind fun its=>d9 g c elt its (d5 src ρ) []
noncomputable def NoOwn (ρ:Ro):Prop:=∀(i:Nat) ds,ρ[i]? ≠some (some (.own ds))/\∀ p,ρ[i]? ≠some (some (.ob p ds))
theorem NoOwn.set {ρ:Ro}(h:NoOwn ρ)(i:Nat)(d:D):NoOwn (ρ.set i (some (.sh d))):=fun j ds=>⟨fun e=>by
 by_cases q:i=j
 .subst q
  have G:i<ρ.length:=by
   rcases Nat.lt_or_ge i ρ.length with z|z
   .exact z
   .rw[List.getElem?_eq_none (by simpa using z)]at e;cases e
  rw[List.getElem?_set_self G]at e;cases e
 .rw[List.getElem?_set_ne q]at e;exact(h j ds).1 e,fun p e=>(h j ds).2 p (m8 e).2⟩
theorem NoOwn.all:∀(is:List Nat)(ds:List D){ρ ρ':Ro},NoOwn ρ->M9 is ds ρ=some ρ'->NoOwn ρ'
 |[],[],ρ,ρ',h,e=>by cases e;exact h
 |[],_::_,_,_,_,e=>by cases e
 |_::_,[],_,_,_,e=>by cases e
 |i::is,d::ds,ρ,ρ',h,e=>NoOwn.all is ds (h.set i d) e
theorem NoOwn.tg {g:Tg}{d:D}{ρ ρ':Ro}(h:NoOwn ρ)(e:tgD g d ρ=some ρ'):NoOwn ρ':=by
 cases g with
 |nm i=>cases e;exact h.set i d
 |tp is=>cases d <;> first| (cases e;done)|exact NoOwn.all is _ h e
 |nt i is=>
  cases d with
  |tup ds=>
   match ds,e with
   |[d,.tup ds],e=>exact NoOwn.all is _ (h.set i d) e
  |_=>cases e
theorem Rl.blk {K:PySem.W.Frag}{F0 H0 F H:Hp}{σ:St}{ρ:Ro}(r:Rl K F0 H0 F H σ ρ)(src:List (Option Nat)):Rl K F H F H (blk0 src σ) (d5 src ρ)/\NoOwn (d5 src ρ):=by
 have I:∀(i:Nat) x,(d5 src ρ)[i]? =some (some x)->∃ d,x=S.sh d:=fun i x e=>by
  unfold d5 at e
  rw[List.getElem?_map]at e
  cases h:src[i]? with
  |none=>rw[h]at e;cases e
  |some o=>
   rw[h]at e
   cases o with
   |none=>cases e
   |some k=>
    simp only[Option.map_some,Option.bind_some]at e
    split at e
    .cases e;exact⟨_,rfl⟩
    .cases e
 have G:NoOwn (d5 src ρ):=fun i ds=>⟨fun e=>(by obtain⟨d,z⟩:=I i _ e;cases z),fun p e=>(by obtain⟨d,z⟩:=I i _ e;cases z)⟩
 refine⟨⟨.refl r.fh,by unfold blk0 d5;simp,fun i d e=>?_,fun i ds e=>absurd e (G i ds).1,fun i j p ds es _ e=>absurd e (G i ds).1,fun i p ds e=>absurd e ((G i ds).2 p),fun i j p ds es e=>absurd e ((G i ds).2 p),fun i j p q ds es e=>absurd e ((G i ds).2 p)⟩,G⟩
 unfold d5 at e
 unfold blk0
 rw[List.getElem?_map]at e ⊢
 cases h:src[i]? with
 |none=>rw[h]at e;cases e
 |some o=>
  rw[h]at e
  cases o with
  |none=>cases e
  |some k=>
   simp only[Option.map_some,Option.bind_some]at e ⊢
   split at e
   .rename_i d' h'
    cases e
    obtain⟨v,e1,e2⟩:=r.sh k _ h'
    exact⟨v,by rw[e1];rfl,e2⟩
   .cases e
theorem Rl.other {K:PySem.W.Frag}{F0 H0 F H:Hp}{σ:St}{ρ:Ro}(r:Rl K F0 H0 F H σ ρ)(j:NoOwn ρ){p:Addr}{o:HO}(z:H0 p=none)(q:F p=none):Rl K F0 H0 F (upd H p o) σ ρ:=
 ⟨⟨r.ext.ff,r.ext.hh.put z,r.ext.fh.put q,r.ext.new,r.ext.nf⟩,r.len,r.sh,fun i ds e=>absurd e (j i ds).1,r.inj,fun i p ds e=>absurd e ((j i ds).2 p),r.obn,r.ob1⟩
section
variable {X:Cx}{a b c e:Expr}{ma mb:ME}{pos:Pos}{st:Stmt}{rest:List Stmt}
noncomputable def PTsd (X:Cx)(ifs:List Expr)(c:MB):Prop:=PTs X ifs (TC X.K c)
noncomputable def cyes:MB:=fun _=>some true
theorem g8:PTsd X [] cyes:=fun pins s σ H Q I i=>by
 obtain⟨F0,H0,F,ρ,b,j,e,q⟩:=i
 cases e
 exact pts_nil pins s σ H Q I (q F H (.refl j.fh))
theorem R4 {ca:MB}(h:PC' X c ca):PTsd X [c] ca:=pts_one h
theorem comp_tf {K:PySem.W.Frag}{src:List (Option Nat)}{mi:ML}{g:Tg}{c:MB}{L:ME}{σ:St}{H:Hp}{Q:VK}(h:TF K (i6 src mi g c L) σ H Q):M8 src (TId K mi) (TGd K g) (TC K c) (TD K L) σ H Q:=by
 obtain⟨F0,H0,F,ρ,out,rl,e,q⟩:=h
 unfold i6 at e
 cases h1:mi ρ with
 |none=>rw[h1]at e;cases e
 |some its=>
  rw[h1]at e
  have e:d9 g c L its (d5 src ρ) []=some out:=e
  refine⟨F0,H0,F,ρ,its,rl,h1,fun J F1 H1 x1 I=>?_⟩
  intro p hp
  obtain⟨rb,no⟩:=(rl.go x1).blk src
  have a3:F1 p=none:=x1.fh.free hp
  refine⟨fun i m a1 H'=>∃ F' ρ' acc xs,Rl K F1 H1 F' H' a1 ρ'/\NoOwn ρ'/\H' p=some (.lst xs)/\F' p=none/\Reps K F' xs acc/\i<=its.length/\m=its.length-i/\d9 g c L (its.drop i) ρ' acc=some out,
   ⟨_,F1,d5 src ρ,[],[],rb.other no hp a3,no,x8,a3,.nil,Nat.zero_le _,rfl,e⟩,?_⟩
  rintro i m a1 H' ⟨F',ρ',acc,xs,z,a6,N,a4,ra,a8,rfl,j⟩
  by_cases Z:i<its.length
  .right
   have hd:=List.getElem?_eq_getElem Z
   refine⟨I.go i F' H' z.ext.ff z.fh Z,fun a0 H2=>∃ F2 M G O,Rl K F1 H1 F2 H2 a0 M/\NoOwn M/\H2 p=some (.lst O)/\F2 p=none/\Reps K F2 O G/\d9 g c L (its.drop (i+1)) M G=some out,?_,fun x H2 y=>?_⟩
   .rintro a0 H2 ⟨F2,M,G,O,b1,b2,b3,b4,b5,b6⟩
    exact⟨its.length-(i+1),by omega,F2,M,G,O,b1,b2,b3,b4,b5,Z,rfl,b6⟩
   .obtain⟨F2,x2,r2⟩:=I.yld i F' H' x H2 _ z.ext.ff z.fh hd y
    rw[j7 hd]at j
    unfold d9 at j
    have pn:∀{F3 H3:Hp},Ext F' H' F3 H3->F3 p=none:=fun{F3 H3} x3=>by
     cases qq:F3 p with
     |none=>rfl
     |some o=>have:=x3.new p a4 (by rw[qq];simp);rw[this]at N;cases N
    cases h2:tgD g its[i] ρ' with
    |none=>simp only[h2]at j;cases j
    |some ρ1=>
     simp only[h2]at j
     refine⟨F1,H1,F2,ρ',_,ρ1,z.go x2,r2,h2,fun F3 H3 a7 U x3=>?_⟩
     have Y:=a6.tg h2
     have a5:=x2.trans x3
     cases h3:c ρ1 with
     |none=>simp only[h3]at j;cases j
     |some k=>
      refine⟨F1,H1,F3,ρ1,k,U,h3,fun F4 H4 x4=>?_⟩
      have S:=a5.trans x4
      cases k with
      |false=>
       simp only[h3]at j
       exact iteF ⟨F4,ρ1,acc,xs,U.go x4,Y,S.hh _ _ N,pn S,ra.mono S.ff,j⟩
      |true=>
       simp only[h3]at j
       refine iteT ?_
       cases h4:L ρ1 with
       |none=>simp only[h4]at j;cases j
       |some d=>
        simp only[h4]at j
        split at j
        .rename_i hz
         refine⟨F1,H1,F4,ρ1,d,U.go x4,h4,fun v F5 H5 x5 r5=>?_⟩
         have R:=S.trans x5
         refine⟨xs,R.hh _ _ N,by rw[ra.length];exact hz,F5,ρ1,acc++[d],xs++[v],((U.go x4).go x5).other Y hp (pn R),Y,x8,pn R,(ra.mono R.ff).append (.cons r5 .nil),j⟩
        .cases j
  .left
   have a2:i=its.length:=by omega
   subst a2
   rw[List.drop_length]at j
   have j:some acc=some out:=j
   cases j
   exact⟨I.stop F' H' z.ext.ff z.fh,q p xs F' H' (x1.trans z.ext) (x1.hh.free hp) a4 N ra⟩
theorem X7 {sc:Scope}{N:List Str}{src:List (Option Nat)}{tg j iter:Expr}{i:List Expr}{z:ML}{g:Tg}{cc:MB}{q:ME}(B:Blk X sc N src)(M:X.calm=true)
  (hi:PId X tg iter z) (J:∀ C fp s H,PGd (c6 X sc C N fp s H) tg g) (G:∀ C fp s H,PTsd (c6 X sc C N fp s H) i cc) (L:∀ C fp s H,PD (c6 X sc C N fp s H) j q)
  (I:∀ x,foldedSetIterable iter X.env x=pure x:=by intro _;rfl):
  PF X (.ListComp j [⟨tg,iter,i,0⟩] sc pos) (i6 src z g cc q):=(pe_comp (g:=TGd X.K g) (tc:=TC X.K cc) (te:=TD X.K q) B M hi (fun C fp s H=>J C fp s H) (fun C fp s H=>G C fp s H) (fun C fp s H=>L C fp s H) I).imp fun _ _ _ h=>comp_tf h
theorem pf_imp {mf:ML}{σ:St}{H:Hp}{Q:VK}(h:TD X.K (mlst mf) σ H Q):TF X.K mf σ H Q:=by
 obtain⟨F0,H0,F,ρ,d,r,e,q⟩:=h
 unfold mlst at e
 cases hm:mf ρ with
 |none=>rw[hm]at e;cases e
 |some ds=>
  rw[hm]at e;cases e
  refine⟨F0,H0,F,ρ,ds,r,hm,fun p xs F' H' x hp i z j=>?_⟩
  exact q _ (upd F' p (.lst xs)) H' (x.freeze i hp z) (.lst (SqL.of x8) (j.mono ((Same.refl F').put i)))
theorem psd_setC {i:Nat}{src:List (Option Nat)}{j:ML}{g:Tg}{cc:MB}{z:ME}(h:PS X st (tAsg (M8 src (TId X.K j) (TGd X.K g) (TC X.K cc) (TD X.K z)) (V7 i))):PSd X st (Z0 i (i6 src j g cc z)):=asg_f h fun _ _ _ q=>comp_tf q
theorem psd_setCs {i:Nat}{src:List (Option Nat)}{j:ML}{g:Tg}{cc:MB}{z:ME}(h:PS X st (tAsg (M8 src (TId X.K j) (TGd X.K g) (TC X.K cc) (TD X.K z)) (V7 i))):PSd X st (mset i (mlst (i6 src j g cc z))):=asg_d h fun _ _ _ q=>comp_tf (pf_imp q)
noncomputable def S9 (c:MB)(body:MS):Nat->MS
 |0,_=>none
 |n+1,ρ=>match c ρ with
  |some true=>match body ρ with
   |some (.nx ρ2)=>S9 c body n ρ2
   |some (.ct ρ2)=>S9 c body n ρ2
   |some (.bk ρ2)=>some (.nx ρ2)
   |o=>o
  |some false=>some (.nx ρ)
  |none=>none
theorem psd_while {body:List Stmt}{ca:MB}{mb:MS}(n:Nat)(hp:PassesOwn (model X.prog X.w) X.A X.env X.xe)(Z:PC' X c ca)(hb:PSsd X body mb):PSd X (.While c body [] pos) (S9 ca mb n):=(ps_while hp Z hb).imp fun Dn σ H M=>by
 obtain⟨F0,H0,F,ρ,o,Y,e,ok⟩:=M
 refine⟨fun m G H'=>∃ F' ρ',Rl X.K F0 H0 F' H' G ρ'/\Same F F'/\S9 ca mb m ρ'=some o,⟨n,F,ρ,Y,Same.refl _,e⟩,?_⟩
 rintro m G H' ⟨F',ρ',I,S,j⟩
 cases m with
 |zero=>cases j
 |succ m=>
  unfold S9 at j
  cases h1:ca ρ' with
  |none=>simp only[h1]at j;cases j
  |some k=>
   refine⟨F0,H0,F',ρ',k,I,h1,fun F1 H1 O=>?_⟩
   cases k with
   |false=>
    simp only[h1]at j
    cases j
    exact iteF (ok F1 H1 G (I.go O) (S.trans O.ff))
   |true=>
    simp only[h1]at j
    refine iteT ⟨fun J H2=>∃ F2 i,Rl X.K F0 H0 F2 H2 J i/\Same F F2/\S9 ca mb m i=some o,fun J H2 ⟨F2,i,a1,a2,a3⟩=>⟨m,Nat.lt_succ_self m,F2,i,a1,a2,a3⟩,?_⟩
    cases h2:mb ρ' with
    |none=>simp only[h2]at j;cases j
    |some U=>
     simp only[h2]at j
     refine⟨F0,H0,F1,ρ',U,I.go O,h2,?_⟩
     have s1:=S.trans O.ff
     cases U with
     |nx i=>exact fun N R z q L=>⟨N,i,q,s1.trans L,j⟩
     |ct i=>exact fun N R z q L=>⟨N,i,q,s1.trans L,j⟩
     |bk i=>cases j;exact fun N R z q L=>ok N R z q (s1.trans L)
     |rt d=>cases j;exact ok
     |rf d=>cases j;exact ok
     |rp d ds=>cases j;exact ok
     |rg d p r=>cases j;exact ok
     |rgf d p r=>cases j;exact ok
inductive Rt where
 |sh (d:D)|fr (ds:List D)|pr (d:D) (ds:List D)
noncomputable abbrev MF:=List D->Option Rt
noncomputable def okT (K:PySem.W.Frag)(F H:Hp)(Q:VK):Rt->Prop
 | .sh d=>∀ v F' H',Ext F H F' H'->Rep K F' v d->Q v H'
 | .fr ds=>∀ p xs F' H',Ext F H F' H'->H p=none->F' p=none->H' p=some (.lst xs)->Reps K F' xs ds->Q (.ref p) H'
 | .pr d ds=>∀ t v p xs F' H',Ext F H F' H'->H t=none->H p=none->t≠p->F' t=none->F' p=none->H' t=some (.tup [v,.ref p])->H' p=some (.lst xs)->Rep K F' v d->Reps K F' xs ds->Q (.ref t) H'
noncomputable def spR (K:PySem.W.Frag)(n:Nat)(m:MF):Sp:=fun vs H Q _=>vs.length=n/\∃ F ds r,Same F H/\Reps K F vs ds/\m ds=some r/\okT K F H Q r
noncomputable def p9 (n:Nat)(ds:List D):Ro:=ds.map (fun d=>some (.sh d))++List.replicate (n-ds.length) none
noncomputable def runB (n:Nat)(m:MS):MF:=fun ds=>match m (p9 n ds)with
 |some (.nx _)=>some (.sh .non)
 |some (.rt d)=>some (.sh d)
 |some (.rf es)=>some (.fr es)
 |some (.rp d es)=>some (.pr d es)
 |_=>none
theorem rl_start {K:PySem.W.Frag}{F H:Hp}{N:List Str}{vs:List V}{ds:List D}(s:Same F H)(r:Reps K F vs ds):Rl K F H F H (T4 N vs) (p9 N.length ds):=by
 have get:∀(i:Nat) x,(p9 N.length ds)[i]? =some (some x)->∃ d,x=S.sh d/\ds[i]? =some d:=fun i x e=>by
  unfold p9 at e
  by_cases hi:i<ds.length
  .rw[List.getElem?_append_left (by simpa using hi),List.getElem?_map]at e
   cases q:ds[i]? with
   |none=>rw[q]at e;cases e
   |some d=>rw[q]at e;cases e;exact⟨d,rfl,rfl⟩
  .rw[List.getElem?_append_right (by simpa using hi),List.getElem?_replicate]at e
   split at e <;> cases e
 refine⟨.refl s,?_,fun i d e=>?_,fun i ds e=>?_,fun i j p ds es _ e=>?_,fun i p ds e=>?_,fun i j p ds es e=>?_,fun i j p q ds es e=>?_⟩
 .unfold T4 p9;simp[r.length]
 .obtain⟨d',e1,e2⟩:=get i _ e
  cases e1
  obtain⟨v,e3,G⟩:=r.get e2
  have z:i<vs.length:=(List.getElem?_eq_some_iff.mp e3).1
  refine⟨v,?_,G⟩
  unfold T4
  rw[List.getElem?_append_left (by simpa using z),List.getElem?_map,e3];rfl
 .obtain⟨d',e1,_⟩:=get i _ e
  cases e1
 .obtain⟨d',e1,_⟩:=get i _ e
  cases e1
 .obtain⟨d',e1,_⟩:=get i _ e
  cases e1
 .obtain⟨d',e1,_⟩:=get i _ e
  cases e1
 .obtain⟨d',e1,_⟩:=get i _ e
  cases e1
theorem Fun.okD {P:Program}{w:World}{K:PySem.W.Frag}{mg:Str->Option Value}{base:Heap}{x qual:Str}{st:Stmt}{f:Addr}{fd:FuncData}{N ps:List Str}{k:Nat}{m:MS}(L:Fun K x qual st f fd)(J:FnScope N ps (y6 st))
  (i:∀(cdv:Value)(A:Around)(outer:List Env)(s:Shared)(H:Hp)(E:XK),Room k (A.deeper (envOfC qual (y6 st) s.heap.objs.size f cdv))->PSsd (cxOf CX0 P w K mg base N qual (y6 st) f cdv A outer s H E).nox (v7 st) m):
  FnOk P w K mg base CX0 (k+1) f fd ps (spR K ps.length (runB N.length m)):=by
 refine L.ok J (fun vs H Q E h=>h.1) fun cdv A outer s H vs Q E I h=>?_
 obtain⟨M,F,ds,r,q,z,e,ok⟩:=h
 unfold runB at e
 cases h1:m (p9 N.length ds)with
 |none=>rw[h1]at e;cases e
 |some o=>
  rw[h1]at e
  refine⟨_,i cdv A outer s H E I,F,H,F,p9 N.length ds,o,rl_start q z,h1,?_⟩
  cases o with
  |nx ρ=>cases e;exact fun F' H' j G _=>ok .non F' H' G.ext .non
  |rt d=>cases e;exact ok
  |rf es=>cases e;exact ok
  |rp d es=>cases e;exact ok
  |rg d p r=>cases e
  |rgf d p r=>cases e
  |bk ρ=>cases e
  |ct ρ=>cases e
@[irreducible] noncomputable def r6 (f:MF)(m:ML):ME:=fun ρ=>(m ρ).bind fun ds=>match f ds with |some (.sh d)=>some d|some (.fr es)=>some (.lst es)|some (.pr d es)=>some (.tup [d,.lst es])|none=>none
variable {E:XK}{es:List Expr}{mf:MF}{m:ML}
theorem w8 {n:Nat}(h:∀ t,PA X es t->PE X e (tCall (spR X.K n mf) [] E t))(hl:es.length=n)(ha:PAs X es m)(hm:∀ ρ ds,m ρ=some ds->ds.length=es.length):PD X e (r6 mf m):=(h _ ha).imp fun σ H Q G=>by
 obtain⟨F0,H0,F,ρ,d,Z,e,q⟩:=G
 unfold r6 at e
 cases h1:m ρ with
 |none=>rw[h1]at e;cases e
 |some ds=>
  rw[h1]at e
  refine⟨F0,H0,F,ρ,ds,Z,h1,fun vs F1 H1 j r1=>?_⟩
  dsimp only[Option.bind]at e
  show spR X.K n mf (vs++[]) H1 Q E
  rw[List.append_nil]
  refine⟨by rw[r1.length,hm ρ ds h1,hl],F1,ds,?_⟩
  split at e
  .rename_i d' h2
   cases e
   exact⟨_,j.fh,r1,h2,fun v F2 H2 z r2=>q v F2 H2 (j.trans z) r2⟩
  .rename_i es' h2
   cases e
   exact⟨_,j.fh,r1,h2,fun p xs F2 H2 z hp R hH r2=>q _ (upd F2 p (.lst xs)) H2 (j.trans (z.freeze R hp hH)) (.lst (SqL.of x8) (r2.mono ((Same.refl F2).put R)))⟩
  .rename_i d' es' h2
   cases e
   refine⟨_,j.fh,r1,h2,fun t v p xs F2 H2 z ht hp I N J L M U Y=>?_⟩
   have S:=z.freeze J hp M
   have i:upd F2 p (.lst xs) t=none:=by rw[w5 I];exact N
   have s2:Same F2 (upd F2 p (.lst xs)):=(Same.refl F2).put J
   have O:Same (upd F2 p (.lst xs)) (upd (upd F2 p (.lst xs)) t (.tup [v,.ref p])):=(Same.refl _).put i
   exact q _ (upd (upd F2 p (.lst xs)) t (.tup [v,.ref p])) H2 (j.trans (S.freeze i ht L)) (.tup (SqT.of x8) (.cons (U.mono (s2.trans O)) (.cons (.lst (SqL.of (by rw[w5 (Ne.symm I)];exact x8)) (Y.mono (s2.trans O))) .nil)))
  .cases e
theorem x6 (ρ:Ro)(ds:List D)(h:anil ρ=some ds):ds.length=0:=by cases h;rfl
theorem z7 {x:ME}{r:ML}{n:Nat}(i:∀ ρ ds,r ρ=some ds->ds.length=n)(ρ:Ro)(ds:List D)(h:y0 x r ρ=some ds):ds.length=n+1:=by
 obtain⟨d,es,_,h2,rfl⟩:=C3 h
 rw[List.length_cons,i ρ es h2]
end
end L2
namespace L2
open PySem PySem.Spec PyProof.Rows
section
variable {X:Cx}{a b c e:Expr}{ma mb:ME}{pos:Pos}
noncomputable def bl2 (g:Bool->Bool->Bool):D->D->Option D
 | .bl i,.bl j=>some (.bl (g i j))
 |_,_=>none
noncomputable def rRng1:List V->Hp->VK->Prop:=fun vs H Q=>∃ j:Int,vs=[.int j]/\∀ p,H p=none->Q (.ref p) (upd H p (.rng 0 j))
theorem call_rng1:CallR X (.type "range") rRng1:=by
 intro pins s σ H xs us Q I r h
 obtain⟨j,rfl,q⟩:=h
 obtain⟨u,rfl,t,rfl⟩:=M7 r
 refine call_range_1 ⟨.ref s.heap.objs.size,_,I.laid (o:=.rng 0 j) (fun b o e=>Heap.get?_push_of_some _ e) (Nat.le_refl _) ⟨_,_,_,Heap.get?_push_size _ rfl⟩,rfl,q _ I.fresh⟩
theorem L3 {K:PySem.W.Frag}{F:Hp}:∀ ns:List Int,Reps K F (ns.map V.int) (ns.map D.int)
 |[]=>.nil
 |n::ns=>.cons (.int n) (L3 ns)
theorem sp_Z24 {K:PySem.W.Frag}{m:MF}(h:∀ ns:List Int,ns.length<=63->m [.lst (ns.map .int)]=some (.sh (.bl true)))(H:Hp)(a:Addr)(ns:List Int)(i:ns.length<=63)(j:SqL K H a (ns.map V.int))(E:XK):
  spR K 1 m [.ref a] H (fun v _=>v= .bl true) E:=
 ⟨rfl,H,_,_,Same.refl H,.cons (.lst j (L3 ns)) .nil,h ns i,fun v F' H' _ r=>by cases r;rfl⟩
end
end L2
namespace L2
open PySem PySem.Spec PyProof.Rows
noncomputable def blkOk (fsc:Scope)(fN:List Str)(sc:Scope)(N:List Str)(src:List (Option Nat)):Bool:=
 (sc.kind== .function)&&sc.names.all (fun y=>y.2 != .cell)&&sc.names.all (fun y=>y.2 != .local || sc.names.lookup y.1==some .local)
  &&sc.names.all (fun y=>y.2 != .free || (fsc.names.lookup y.1==some .cell || fsc.names.lookup y.1==some .free))&&(src.length==N.length)
  &&(List.range src.length).all fun j=>match src[j]? with
   |some (some i)=>match N[j]? with
    |some x=>fN[i]? ==some x&&sc.names.lookup x==some .free
    |none=>false
   |_=>true
theorem d6 {X:Cx}{sc:Scope}{N:List Str}{src:List (Option Nat)}(q:Scope)(J:List Str)(h1:X.env.scope=q)(h2:X.N=J)(h:blkOk q J sc N src=true):Blk X sc N src:=by
 unfold blkOk at h
 simp only[Bool.and_eq_true,List.all_eq_true,beq_iff_eq,Bool.or_eq_true,bne_iff_ne,ne_eq]at h
 obtain⟨⟨⟨⟨⟨U,S⟩,R⟩,O⟩,M⟩,L⟩:=h
 refine⟨U,S,fun y G I=>?_,fun y G I=>?_,fun j i e=>?_,M⟩
 .rcases R y G with z|z
  .exact absurd I z
  .exact z
 .have k:∀ x,X.env.kindOf x=q.names.lookup x:=fun x=>by rw[<-h1];rfl
  rw[k]
  rcases O y G with z|z
  .exact absurd I z
  .exact z
 .have hj:j<src.length:=(List.getElem?_eq_some_iff.mp e).1
  have:=L j (List.mem_range.mpr hj)
  rw[e]at this
  simp only at this
  cases hx:N[j]? with
  |none=>rw[hx]at this;cases this
  |some x=>
   rw[hx]at this
   simp only[Bool.and_eq_true,beq_iff_eq]at this
   exact⟨x,rfl,by rw[h2];exact this.1,this.2⟩
end L2
namespace L2
open PySem PySem.Spec PyProof.Rows
theorem pf_sl {X:Cx}{a:Expr}{i:ML}{lo hi:Option Expr}{l h:MO}{p2 pos:Pos}(ha:PB X a i)(j:POs X lo l)(hh:POs X hi h):PF X (.Subscript a (.Slice lo hi none p2) pos) (mcut i l h):=pf_cut ha j hh (pe_slice sl_list ha j hh)
end L2
namespace L2
open PySem PySem.Spec PyProof.Rows
noncomputable def zipE (f:D->D->Option Bool):List D->List D->Option Bool
 |d::ds,e::es=>(f d e).bind fun a=>(zipE f ds es).bind fun b=>some (a&&b)
 |_,_=>some true
noncomputable def eqF:Nat->D->D->Option Bool
 |0,_,_=>none
 |n+1,.lst ds,.lst es=>if ds.length=es.length then zipE (eqF n) ds es else some false
 |n+1,.tup ds,.tup es=>(zipE (eqF n) ds es).map fun b=>b&&ds.length==es.length
 |_+1,d,e=>eqS d e
theorem C5 {f:D->D->Option Bool}:∀{ds es:List D}{k:Bool},zipE f ds es=some k->∃ g:Nat->Bool,(∀ j d e,ds[j]? =some d->es[j]? =some e->f d e=some (g j))/\k=(List.range (min ds.length es.length)).all g
 |[],es,k,h=>by
  have h:some true=some k:=by simpa[zipE]using h
  cases h
  exact⟨fun _=>true,by simp,by simp⟩
 |_::_,[],k,h=>by
  have h:some true=some k:=by simpa[zipE]using h
  cases h
  exact⟨fun _=>true,by simp,by simp⟩
 |d::ds,e::es,k,h=>by
  unfold zipE at h
  cases h1:f d e with
  |none=>rw[h1]at h;cases h
  |some a=>
   rw[h1]at h
   cases h2:zipE f ds es with
   |none=>rw[h2]at h;cases h
   |some b=>
    rw[h2]at h
    have h:some (a&&b)=some k:=h
    cases h
    obtain⟨g,q,i⟩:=C5 h2
    refine⟨fun j=>match j with |0=>a|j+1=>g j,?_,?_⟩
    .intro j d' e' hd he
     cases j with
     |zero=>simp at hd he;subst hd he;exact h1
     |succ j=>exact q j d' e' (by simpa using hd) (by simpa using he)
    .rw[i,List.length_cons,List.length_cons,Nat.add_min_add_right,List.range_succ_eq_map,List.all_cons,List.all_map]
     rfl
theorem M6 {f:D->D->Option Bool}(i:∀ d k,f d d=some k->k=true):∀{ds:List D}{k:Bool},zipE f ds ds=some k->k=true
 |[],k,h=>by simp[zipE]at h;exact h
 |d::ds,k,h=>by
  unfold zipE at h
  cases h1:f d d with
  |none=>rw[h1]at h;cases h
  |some a=>
   rw[h1]at h
   cases h2:zipE f ds ds with
   |none=>rw[h2]at h;cases h
   |some b=>
    rw[h2]at h
    have h:some (a&&b)=some k:=h
    cases h
    rw[i d a h1,M6 i h2];rfl
theorem M1:∀(n:Nat)(d:D)(k:Bool),eqF n d d=some k->k=true
 |0,_,_,h=>by simp[eqF]at h
 |n+1,.lst ds,k,h=>by
  simp only[eqF,if_true]at h
  exact M6 (M1 n) h
 |n+1,.tup ds,k,h=>by
  simp only[eqF]at h
  cases h1:zipE (eqF n) ds ds with
  |none=>rw[h1]at h;cases h
  |some b=>
   rw[h1]at h
   have:=M6 (M1 n) h1
   subst this
   simp at h;exact h
 |n+1,.non,k,h=>by simp[eqF,eqS]at h;exact h
 |n+1,.bl b,k,h=>by simp[eqF,eqS]at h;exact h
 |n+1,.int b,k,h=>by simp[eqF,eqS]at h;exact h
 |n+1,.str b,k,h=>by simp[eqF,eqS]at h;exact h
 |n+1,.exc b,k,h=>by simp[eqF,eqS]at h
section
variable {X:Cx}{pins:List (Addr×Obj)}{σ:St}{H:Hp}{s:Shared}
theorem Inv.no_both (I:Inv X pins σ H s){a:Addr}{xs ys:List V}(h1:SqL X.K H a xs)(h2:SqT X.K H a ys):False:=by
 obtain⟨its,_,⟨o,n,e,z,_⟩,_⟩:=I.list h1
 obtain⟨its',_,⟨o',j,i,_⟩,_⟩:=I.tuple h2
 rw[e]at j;cases j
 rw[z]at i
 injection i with q
 exact absurd q (by decide)
theorem Inv.xat (I:Inv X pins σ H s){a C:Addr}(h:H a=some (.ext (XAt a C))):XAt a C s.heap:=(show ObjOk X.prog X.w H s.heap a (.ext (XAt a C))from I.hok a _ h).1
theorem Inv.no_xl (I:Inv X pins σ H s){a C:Addr}{xs:List V}(h1:SqL X.K H a xs)(h2:H a=some (.ext (XAt a C))):False:=by
 obtain⟨its,_,⟨o,n,e,q,_⟩,_⟩:=I.list h1
 obtain⟨o',vs,j,i,_⟩:=I.xat h2
 rw[e]at j;cases j
 rw[q]at i;cases i
theorem Inv.no_xt (I:Inv X pins σ H s){a C:Addr}{xs:List V}(h1:SqT X.K H a xs)(h2:H a=some (.ext (XAt a C))):False:=by
 obtain⟨its,_,⟨o,e,q,_⟩,_⟩:=I.tuple h1
 obtain⟨o',vs,j,i,_⟩:=I.xat h2
 rw[e]at j;cases j
 rw[q]at i;cases i
mutual
theorem Rep.inj (I:Inv X pins σ H s):∀{v:V}{d e:D},Rep X.K H v d->Rep X.K H v e->d=e
 |_,_,_,.non,.non=>rfl
 |_,_,_,.bl b,.bl _=>rfl
 |_,_,_,.int i,.int _=>rfl
 |_,_,_,.str x,.str _=>rfl
 |_,_,_,.lst h r,.lst h' r'=>by
  have e:=I.list_inj h h'
  subst e
  rw[Reps.inj I r r']
 |_,_,_,.tup h r,.tup h' r'=>by
  have e:=I.tuple_inj h h'
  subst e
  rw[Reps.inj I r r']
 |_,_,_,.lst h _,.tup h' _=>(I.no_both h h').elim
 |_,_,_,.tup h _,.lst h' _=>(I.no_both h' h).elim
 |_,_,_,.lst h _,.exc _ h'=>(I.no_xl h h').elim
 |_,_,_,.tup h _,.exc _ h'=>(I.no_xt h h').elim
 |_,_,_,.exc _ h',.lst h _=>(I.no_xl h h').elim
 |_,_,_,.exc _ h',.tup h _=>(I.no_xt h h').elim
 |_,_,_,.exc n h,.exc n' h'=>by
  obtain⟨o,vs,e,J,_⟩:=I.xat h
  obtain⟨o',G,z,j,_⟩:=I.xat h'
  rw[e]at z;cases z
  rw[J]at j;cases j
  have q:=n.2.symm.trans n'.2
  cases q;rfl
theorem Reps.inj (I:Inv X pins σ H s):∀{vs:List V}{ds es:List D},Reps X.K H vs ds->Reps X.K H vs es->ds=es
 |_,_,_,.nil,.nil=>rfl
 |_,_,_,.cons h r,.cons h' r'=>by rw[Rep.inj I h h',Reps.inj I r r']
end
open PySem.SeqAt in
theorem eq_at (I:Inv X pins σ H s):∀(n:Nat){A:Around}{x y:V}{v u:Value}{d e:D}{k:Bool},A.units+n<cLine->Rep X.K H x d->Rep X.K H y e->RelV x v->RelV y u->eqF n d e=some k->EqAt A s v u k/\RcAt A s v u k/\RcNeAt A s v u (!k)
 |0,A,x,y,v,u,d,e,k,hu,r1,r2,q1,q2,h=>by simp[eqF]at h
 |n+1,A,x,y,v,u,d,e,k,hu,r1,r2,q1,q2,h=>by
  have G:A.units<cLine:=by omega
  have a4:A.in1.units+n<cLine:=by show A.units+1+n<cLine;omega
  cases r1 with
  |non=>
   cases q1
   cases r2 with
   |non=>cases q2;cases h;exact⟨EqAt.same _,.none_none,.none_none⟩
   |bl b=>cases q2;cases h;exact⟨.none_bool _,.none_bool _,.none_bool _⟩
   |int b=>obtain⟨t,rfl⟩:=q2;cases h;exact⟨.none_int _ _,.none_int _ _,.none_int _ _⟩
   |str b=>obtain⟨t,rfl⟩:=q2;cases h;exact⟨.none_str _ _,.none_str _ _,.none_str _ _⟩
   |lst _ _=>cases h
   |tup _ _=>cases h
   |exc _ _=>cases h
  |bl i=>
   cases q1
   cases r2 with
   |non=>cases q2;cases h;exact⟨.bool_none _,.bool_none _,.bool_none _⟩
   |bl b=>cases q2;cases h;exact⟨.bool_bool _ _,.bool_bool _ _,.bool_bool _ _⟩
   |int b=>cases h
   |str b=>obtain⟨t,rfl⟩:=q2;cases h;exact⟨.bool_str _ _ _,.bool_str _ _ _,.bool_str _ _ _⟩
   |lst _ _=>cases h
   |tup _ _=>cases h
   |exc _ _=>cases h
  |int i=>
   obtain⟨t0,rfl⟩:=q1
   cases r2 with
   |non=>cases q2;cases h;exact⟨.int_none _ _,.int_none _ _,.int_none _ _⟩
   |bl b=>cases h
   |int b=>obtain⟨t,rfl⟩:=q2;cases h;exact⟨.int_int _ _ _ _,.int_int _ _ _ _,.int_int _ _ _ _⟩
   |str b=>obtain⟨t,rfl⟩:=q2;cases h;exact⟨.int_str _ _ _ _,.int_str _ _ _ _,.int_str _ _ _ _⟩
   |lst _ _=>cases h
   |tup _ _=>cases h
   |exc _ _=>cases h
  |str i=>
   obtain⟨t0,rfl⟩:=q1
   cases r2 with
   |non=>cases q2;cases h;exact⟨.str_none _ _,.str_none _ _,.str_none _ _⟩
   |bl b=>cases q2;cases h;exact⟨.str_bool _ _ _,.str_bool _ _ _,.str_bool _ _ _⟩
   |int b=>obtain⟨t,rfl⟩:=q2;cases h;exact⟨.str_int _ _ _ _,.str_int _ _ _ _,.str_int _ _ _ _⟩
   |str b=>obtain⟨t,rfl⟩:=q2;cases h;exact⟨.str_str _ _ _ _,.str_str _ _ _ _,.str_str _ _ _ _⟩
   |lst _ _=>cases h
   |tup _ _=>cases h
   |exc _ _=>cases h
  |@lst a xs ds sq rs=>
   cases q1
   cases r2 with
   |@lst b ys es sq2 rs2=>
    cases q2
    obtain⟨its,vr,⟨o,m,ho,hc,_,hd⟩,_⟩:=I.list sq
    obtain⟨q,J,⟨o2,m2,a1,a3,_,a2⟩,_⟩:=I.list sq2
    have L1:s.heap.IsList a its.toArray:=⟨o,ho,hc,m,hd⟩
    have L2:s.heap.IsList b q.toArray:=⟨o2,a1,a3,m2,a2⟩
    have z1:its.length=ds.length:=by rw[<-vr.length,rs.length]
    have z2:q.length=es.length:=by rw[<-J.length,rs2.length]
    have z:RcAt A s (.ref a) (.ref b) k/\RcNeAt A s (.ref a) (.ref b) (!k):=by
     simp only[eqF]at h
     split at h
     .rename_i hl
      obtain⟨g,g1,g2⟩:=C5 h
      have he:∀ j (h1:j<its.toArray.size) (h2:j<q.toArray.size),EqAt A.in1 s its.toArray[j] q.toArray[j] (g j):=by
       intro j h1 h2
       simp only[List.size_toArray]at h1 h2
       obtain⟨d',N⟩:∃ d',ds[j]? =some d':=⟨_,List.getElem?_eq_getElem (by omega)⟩
       obtain⟨e',M⟩:∃ e',es[j]? =some e':=⟨_,List.getElem?_eq_getElem (by omega)⟩
       obtain⟨v',Z,S⟩:=rs.get N
       obtain⟨u',a0,U⟩:=rs2.get M
       obtain⟨p,hp,rp⟩:=vr.get Z
       obtain⟨p2,L,Y⟩:=J.get a0
       have e1:its.toArray[j]=p:=by
        rw[List.getElem?_eq_getElem h1]at hp
        simpa using hp
       have e2:q.toArray[j]=p2:=by
        rw[List.getElem?_eq_getElem h2]at L
        simpa using L
       rw[e1,e2]
       exact(eq_at I n a4 S U rp Y (g1 j d' e' N M)).1
      have R:its.toArray.size=q.toArray.size:=by simp only[List.size_toArray];omega
      have hk:k=(List.range its.toArray.size).all g:=by
       rw[g2];simp only[List.size_toArray];rw[show min ds.length es.length=its.length by omega]
      rw[hk]
      exact⟨.lists L1 L2 R G he,.lists L1 L2 R G he⟩
     .rename_i hl
      cases h
      have R:(its.toArray.size != q.toArray.size)=true:=by simp only[List.size_toArray];exact bne_iff_ne.mpr (by omega)
      exact⟨.lists_lengths L1 L2 R G,.lists_lengths L1 L2 R G⟩
    refine⟨?_,z⟩
    by_cases O:a=b
    .subst O
     have:=Rep.inj I (.lst sq rs) (.lst sq2 rs2)
     rw[this]at h
     rw[M1 _ _ _ h]
     exact EqAt.same _
    .exact .of_refs O z.1
   |non=>cases h
   |bl _=>cases h
   |int _=>cases h
   |str _=>cases h
   |tup _ _=>cases h
   |exc _ _=>cases h
  |@tup a xs ds sq rs=>
   cases q1
   cases r2 with
   |@tup b ys es sq2 rs2=>
    cases q2
    obtain⟨its,vr,⟨o,ho,hc,m,hd⟩,_⟩:=I.tuple sq
    obtain⟨q,J,⟨o2,a1,a3,m2,a2⟩,_⟩:=I.tuple sq2
    have L1:s.heap.IsTuple a its.toArray:=⟨o,ho,hc,m,hd⟩
    have L2:s.heap.IsTuple b q.toArray:=⟨o2,a1,a3,m2,a2⟩
    have z1:its.length=ds.length:=by rw[<-vr.length,rs.length]
    have z2:q.length=es.length:=by rw[<-J.length,rs2.length]
    have z:RcAt A s (.ref a) (.ref b) k/\RcNeAt A s (.ref a) (.ref b) (!k):=by
     simp only[eqF]at h
     cases R:zipE (eqF n) ds es with
     |none=>rw[R]at h;cases h
     |some kk=>
      rw[R]at h
      have h:some (kk&&ds.length==es.length)=some k:=h
      cases h
      obtain⟨g,g1,g2⟩:=C5 R
      have he:∀ j (h1:j<its.toArray.size) (h2:j<q.toArray.size),EqAt A.in1 s its.toArray[j] q.toArray[j] (g j):=by
       intro j h1 h2
       simp only[List.size_toArray]at h1 h2
       obtain⟨d',N⟩:∃ d',ds[j]? =some d':=⟨_,List.getElem?_eq_getElem (by omega)⟩
       obtain⟨e',M⟩:∃ e',es[j]? =some e':=⟨_,List.getElem?_eq_getElem (by omega)⟩
       obtain⟨v',Z,S⟩:=rs.get N
       obtain⟨u',a0,U⟩:=rs2.get M
       obtain⟨p,hp,rp⟩:=vr.get Z
       obtain⟨p2,L,Y⟩:=J.get a0
       have e1:its.toArray[j]=p:=by
        rw[List.getElem?_eq_getElem h1]at hp
        simpa using hp
       have e2:q.toArray[j]=p2:=by
        rw[List.getElem?_eq_getElem h2]at L
        simpa using L
       rw[e1,e2]
       exact(eq_at I n a4 S U rp Y (g1 j d' e' N M)).1
      have hk:(kk&&ds.length==es.length)=((List.range (min its.toArray.size q.toArray.size)).all g&&its.toArray.size==q.toArray.size):=by
       rw[g2];simp only[List.size_toArray];rw[z1,z2]
      rw[hk]
      exact⟨.tuples L1 L2 G he,.tuples L1 L2 G he⟩
    refine⟨?_,z⟩
    by_cases O:a=b
    .subst O
     have:=Rep.inj I (.tup sq rs) (.tup sq2 rs2)
     rw[this]at h
     rw[M1 _ _ _ h]
     exact EqAt.same _
    .exact .of_refs O z.1
   |non=>cases h
   |bl _=>cases h
   |int _=>cases h
   |str _=>cases h
   |lst _ _=>cases h
   |exc _ _=>cases h
  |exc _ _=>cases r2 <;> cases h
end
end L2
namespace L2
open PySem PySem.Spec PyProof.Rows
section
variable {X:Cx}{a b c e:Expr}{ma mb:ME}{la lb:ML}{pos:Pos}
noncomputable def rEqF (K:PySem.W.Frag)(neg:Bool):R2:=fun x y H Q=>∃ d e k,Rep K H x d/\Rep K H y e/\eqF 8 d e=some k/\Q (.bl (if neg then !k else k)) H
theorem op_neF (j:X.A.units+64<cLine):OpR X (compareOp .NotEq) (rEqF X.K true):=by
 intro pins s σ H x y v u Q I rx i h
 obtain⟨d,e,k,r1,r2,h,q⟩:=h
 exact(eq_at I 8 (by omega) r1 r2 rx i h).2.2 X.prog X.w _ _ ⟨.bl (!k),H,I,rfl,q⟩
noncomputable def eqFD (neg:Bool)(d e:D):Option D:=(eqF 8 d e).map fun k=>.bl (if neg then !k else k)
@[irreducible] noncomputable def meqB (neg:Bool)(x y:ML):ME:=fun ρ=>(x ρ).bind fun ds=>(y ρ).bind fun es=>eqFD neg (.lst ds) (.lst es)
theorem eqB_d {i:Bool}{σ:St}{H:Hp}{Q:VK}(h:TD X.K (meqB i la lb) σ H Q):tOp (rEqF X.K i) (TB X.K la) (TB X.K lb) σ H Q:=by
 obtain⟨F0,H0,F,ρ,g,G,e,q⟩:=h
 unfold meqB at e
 cases h1:la ρ with
 |none=>rw[h1]at e;cases e
 |some ds=>
  cases h2:lb ρ with
  |none=>rw[h1,h2]at e;cases e
  |some es=>
   rw[h1,h2]at e
   have e:eqFD i (.lst ds) (.lst es)=some g:=e
   refine⟨F0,H0,F,ρ,ds,G,h1,fun p xs F1 H1 z s1 r1=>⟨F0,H0,F1,ρ,es,G.go z,h2,fun p2 I F2 H2 j s2 r2=>?_⟩⟩
   unfold eqFD at e
   cases hk:eqF 8 (.lst ds) (.lst es)with
   |none=>rw[hk]at e;cases e
   |some k=>
    rw[hk]at e;cases e
    exact⟨_,_,k,.lst (j.hh.seq s1) (r1.mono (j.ff.trans j.fh)),.lst s2 (r2.mono j.fh),hk,q _ F2 H2 (z.trans j) (.bl _)⟩
theorem pc_eqB {op:CmpOp}{i:Bool}(G:OpR X (compareOp op) (rEqF X.K i))(ha:PB X a la)(I:PB X b lb)(hm:behindInMarks op b=false):PC' X (.Compare a [op] [b] pos) (v3 (meqB i la lb)):=(pt_cmpR G ha I hm).imp fun σ H Q j=>by
 obtain⟨F0,H0,F,ρ,g,z,e,q⟩:=j
 unfold v3 at e
 split at e
 .rename_i k hk
  cases e
  refine eqB_d ⟨F0,H0,F,ρ,.bl g,z,hk,fun v F' H' x r=>?_⟩
  cases r
  exact⟨_,rfl,q F' H' x⟩
 .cases e
end
end L2
namespace L2
open PySem PySem.Spec PyProof.Rows
theorem Q6 (its:List Value):∀ i:List Nat,(∀ j∈i,j<its.length)->i.filterMap (its.toArray[·]?)=i.map fun j=>its.getD j Value.none
 |[],_=>rfl
 |j::i,h=>by
  have z:=h j (by simp)
  have e:its.toArray[j]? =some (its.getD j Value.none):=by simp[List.getD_eq_getElem?_getD,z]
  rw[List.filterMap_cons,e,List.map_cons,Q6 its i fun k q=>h k (by simp[q])]
theorem slicePick_rev (its:List Value):slicePick its.toArray none none (some (-1))=its.reverse.toArray:=by
 have z:sliceBounds none none (some (-1)) its.toArray.size=((its.length:Int)-1,-1,-1):=by
  simp[sliceBounds]
 have q:sliceRange ((its.length:Int)-1) (-1) (-1)=(List.range its.length).map fun(k:Nat)=>((its.length:Int)-1 + -1*(k:Int)).toNat:=by
  unfold sliceRange
  have:(if (-1:Int)>0 then (if (its.length:Int)-1 < -1 then (-1-((its.length:Int)-1) + -1-1) / -1 else 0)else (if (its.length:Int)-1 > -1 then ((its.length:Int)-1 - -1 - -1-1) / (- -1)else 0))=(its.length:Int):=by
   rw[if_neg (by decide)]
   split
   .rw[show (- -1:Int)=1 by decide,Int.ediv_one];omega
   .omega
  simp only[this,Int.toNat_natCast]
 unfold slicePick
 rw[z]
 show ((sliceRange ((its.length:Int)-1) (-1) (-1)).filterMap (its.toArray[·]?)).toArray=_
 rw[q,Q6]
 .congr 1
  apply List.ext_getElem
  .simp
  .intro i h1 h2
   simp only[List.length_map,List.length_range]at h1
   simp only[List.getElem_map,List.getElem_range,List.getElem_reverse]
   have e:((its.length:Int)-1 + -1*(i:Int)).toNat=its.length-1-i:=by omega
   rw[e]
   simp[List.getD_eq_getElem?_getD,show its.length-1-i<its.length by omega]
 .intro j hj
  simp only[List.mem_map,List.mem_range]at hj
  obtain⟨k,G,rfl⟩:=hj
  omega
section
variable {X:Cx}{a b c e k:Expr}{te:TE}{ma mb:ME}{la lb:ML}{pos p2:Pos}{st:Stmt}
noncomputable def tRev (K:PySem.W.Frag)(te:TE)(tk:TO):TE:=fun σ H Q=>te σ H fun x H1=>tk σ H1 fun o H2=>o=some (-1)/\∃ a xs,x= .ref a/\SqL K H2 a xs/\∀ p,H2 p=none->Q (.ref p) (upd H2 p (.lst xs.reverse))
theorem pe_rev {J:Option Expr}{tk:TO}(he:PE X e te)(Z:PO X J tk)(G:∀ v i:Value,subscripted (.Slice none none J p2) false v i=operate [v,i] (getItem v i)):PE X (.Subscript e (.Slice none none J p2) pos) (tRev X.K te tk):=by
 intro pins s σ H Q I h
 refine Subscript_ (thn (he pins s σ H _ I h) fun v s1 j=>?_)
 obtain⟨x,H1,I1,r1,R⟩:=j
 refine wpAny_Slice ?_
 rw[evalPart_none]
 refine wpAny_pure (wpAny_pure (thn (Z pins s1 σ H1 _ I1 R) fun M z j=>?_))
 obtain⟨o,H3,I3,S,eo,a,xs,ex,Y,q⟩:=j
 subst eo ex
 cases r1
 have L:Inv X pins σ H3 { z with heap:=z.heap.push { cls:=.type "slice",data:=.fields #[.none,.none,M] } }:=I3.kept (t':=z.toks) fun b ob q=>Heap.get?_push_of_some _ q
 obtain⟨its,r,N,U⟩:=L.list Y
 have O:=r.length
 show wpAny (model X.prog X.w) X.A (subscriptTail e (.Slice none none J p2) (.ref a) (.ref z.heap.objs.size)) (EP X pins σ Q) X.xe { z with heap:=z.heap.push { cls:=.type "slice",data:=.fields #[.none,.none,M] } }
 refine tail_any (ops:=[.ref a,.ref z.heap.objs.size]) N.isList.typeIs slot_list_getitem.lookup ?_ (G _ _)
 refine wpAny_getItem_list_slice N.isList (Heap.IsSliceOf.new ..) .none .none S (by simp) ?_ (by rw[List.size_toArray] <;> omega)
 rw[slicePick_rev]
 refine⟨.ref _,_,L.laid (t':=z.toks) (o:=.lst xs.reverse) (fun b ob q=>Heap.get?_push_of_some _ q) (Nat.le_refl _) ?_,rfl,q _ (L.hok.fresh (Nat.le_refl _))⟩
 refine⟨by rw[List.length_reverse];exact U,_,0,?_,Heap.get?_push_size _ rfl⟩
 exact Vals.reverse r
@[irreducible] noncomputable def mrev (m:ML)(k:MO):ML:=fun ρ=>(m ρ).bind fun ds=>match k ρ with |some (some (-1))=>some ds.reverse|_=>none
theorem pf_rev {I:Option Expr}{mk:MO}(ha:PB X a la)(N:POs X I mk)(z:∀ v i:Value,subscripted (.Slice none none I p2) false v i=operate [v,i] (getItem v i):=by intro _ _;with_unfolding_all rfl):PF X (.Subscript a (.Slice none none I p2) pos) (mrev la mk):=(pe_rev ha N z).imp fun σ H Q G=>by
 obtain⟨F0,H0,F,ρ,g,M,e,q⟩:=G
 unfold mrev at e
 cases h1:la ρ with
 |none=>rw[h1]at e;cases e
 |some ds=>
  rw[h1]at e
  dsimp only[Option.bind]at e
  split at e
  .rename_i h2
   cases e
   refine⟨F0,H0,F,ρ,ds,M,h1,fun p xs F1 H1 L s1 r1=>⟨F0,H0,F1,ρ,_,M.go L,h2,fun F2 H2 j=>⟨rfl,p,xs,rfl,j.hh.seq s1,fun w hw=>?_⟩⟩⟩
   have J:=L.trans j
   exact q w _ F2 _ (J.trans (Ext.own j.fh hw)) (J.hh.free hw) (j.fh.free hw) x8 (r1.mono j.ff).reverse
  .cases e
end
end L2
namespace L2
open PySem PySem.Spec PyProof.Rows
section
variable {X:Cx}{a b c e:Expr}{ma mb:ME}{la lb:ML}{pos:Pos}{st:Stmt}
end
end L2
namespace L2
open PySem PySem.Spec PyProof.Rows
section
variable {K:PySem.W.Frag}{F0 H0 F H:Hp}{σ:St}{ρ:Ro}
end
end L2
namespace L2
open PySem PySem.Spec PyProof.Rows
section
variable {X:Cx}{a b c e:Expr}{ma mb mz:ME}{la lb:ML}{pos:Pos}
noncomputable def isND (neg:Bool):D->D->Option D
 | .non,.non=>some (.bl (!neg))
 |_,.non=>some (.bl neg)
 |_,_=>none
theorem opd_isN {K:PySem.W.Frag}:OpD K (fun x y H Q=>y= .non/\Q (.bl (decide (x= .non))) H) (isND false):=by
 intro F H x y d e w Q s r1 r2 h q
 cases r2 with
 |non=>cases r1 <;> cases h <;> exact⟨rfl,q _ F H (.refl s) (.bl _)⟩
 |_=>cases d <;> cases h
@[irreducible] noncomputable def mchain (f g:D->D->Option D)(x y z:ME):ME:=fun ρ=>match x ρ,y ρ with
 |some d,some e=>(match f d e with |some (.bl true)=>(match z ρ with |some h=>g e h|none=>none)|some (.bl false)=>some (.bl false)|_=>none)
 |_,_=>none
theorem chain_d {r L:R2}{f g:D->D->Option D}(hf:OpD X.K r f)(Z:OpD X.K L g){σ:St}{H:Hp}{Q:VK}(h:TD X.K (mchain f g ma mb mz) σ H Q):tChain r L (TD X.K ma) (TD X.K mb) (TD X.K mz) σ H Q:=by
 obtain⟨F0,H0,F,ρ,w,J,e,q⟩:=h
 unfold mchain at e
 cases h1:ma ρ with
 |none=>rw[h1]at e;cases e
 |some d=>
  cases h2:mb ρ with
  |none=>rw[h1,h2]at e;cases e
  |some G=>
   rw[h1,h2]at e
   refine⟨F0,H0,F,ρ,d,J,h1,fun x F1 H1 z r1=>⟨F0,H0,F1,ρ,G,J.go z,h2,fun y F2 H2 i r2=>?_⟩⟩
   cases h3:f d G with
   |none=>simp only[h3]at e;cases e
   |some k=>
    refine hf F2 H2 x y d G k _ i.fh (r1.mono i.ff) r2 h3 fun v N H3 j Y=>?_
    simp only[h3]at e
    cases Y with
    |bl k=>
     cases k with
     |false=>
      cases e
      exact⟨false,rfl,by rw[if_neg (by simp)];exact q _ N H3 ((z.trans i).trans j) (.bl _)⟩
     |true=>
      refine⟨true,rfl,?_⟩
      rw[if_pos rfl]
      cases h4:mz ρ with
      |none=>simp only[h4]at e;cases e
      |some M=>
       simp only[h4]at e
       refine⟨F0,H0,N,ρ,M,((J.go z).go i).go j,h4,fun R F4 H4 I U=>?_⟩
       exact Z F4 H4 y R G M w _ I.fh (r2.mono (j.ff.trans I.ff)) U e fun S F5 H5 O=>q S F5 H5 ((((z.trans i).trans j).trans I).trans O)
    |_=>cases e
theorem pd_chain {op i:CmpOp}{r q:R2}{f g:D->D->Option D}(z:OpR X (compareOp op) r)(I:OpD X.K r f)(j:OpR X (compareOp i) q)(G:OpD X.K q g)(ha:PD X a ma)(L:PD X b mb)(J:PD X c mz)
  (hm:lastMarks [op,i] [b,c]=false:=by with_unfolding_all rfl):PD X (.Compare a [op,i] [b,c] pos) (mchain f g ma mb mz):=(pe_chain z j ha L J hm).imp fun _ _ _ h=>chain_d I G h
noncomputable def Q4:List D->Option (List Int)
 |[]=>some []
 | .int i::r=>match Q4 r with |some ns=>some (i::ns)|none=>none
 |_=>none
theorem O2 {K:PySem.W.Frag}{F:Hp}:∀{vs:List V}{ds:List D}{ns:List Int},Reps K F vs ds->Q4 ds=some ns->vs=ns.map V.int
 |_,_,_,.nil,h=>by cases h;rfl
 |_,_,_,.cons (d:=d) (ds:=ds) r t,h=>by
  cases r with
  |int i=>
   unfold Q4 at h
   cases h1:Q4 ds with
   |none=>simp only[h1]at h;cases h
   |some ns=>simp only[h1]at h;cases h;rw[O2 t h1];rfl
  |_=>cases h
theorem Q3:∀ ns:List Int,Q4 (ns.map D.int)=some ns
 |[]=>rfl
 |n::ns=>by show (match Q4 (ns.map D.int)with |some ns=>some (n::ns)|none=>none)=_;rw[Q3 ns]
noncomputable def tabVs:List (Str×Str)->List DictEntry->Prop
 |[],[]=>True
 | (k,v)::r,e::es=>(∃ t,e.key= .str k t)/\(∃ t,e.val= .str v t)/\tabVs r es
 |_,_=>False
structure KTab (w:World)(K:PySem.W.Frag)(a:Addr)(tab:List (Str×Str)):Prop where
 ns:(a==sysModules)=false
 nd:(tab.map (·.1)).Nodup
 obj:∃ es ep,K.lookup a=some ⟨.type "dict",none,.dict es ep,#[]⟩/\tabVs tab es.toList/\∀ e∈es.toList,∀ k t,e.key= .str k t->e.hash=hashStr w k
theorem tab_pairs {P:Program}{w:World}:∀{tab:List (Str×Str)}{es:List DictEntry},tabVs tab es->∃ kvs:List (Key×Value),Pairs (J0 P w) es kvs/\kvs.map (·.1)=tab.map (fun p=>Sum.inr p.1)/\∀ k,(∀ v,tab.lookup k=some v->∃ t,valueAt kvs (Sum.inr k)=some (.str v t))/\(tab.lookup k=none->valueAt kvs (Sum.inr k)=none)
 |[],[],_=>⟨[],.nil,rfl,fun k=>⟨fun v h=>by simp at h,fun _=>rfl⟩⟩
 |[],_::_,h=>h.elim
 |_::_,[],h=>h.elim
 | (k,v)::r,e::es,⟨⟨t1,h1⟩,⟨t2,h2⟩,h3⟩=>by
  obtain⟨kvs,O,N,M⟩:=tab_pairs (P:=P) (w:=w) h3
  refine⟨(Sum.inr k,.str v t2)::kvs,.cons (by rw[h1];exact keyIs_str k t1) h2 O,by rw[List.map_cons,List.map_cons,N],fun j=>?_⟩
  unfold valueAt
  by_cases q:j=k
  .subst q
   refine⟨fun G h=>?_,fun h=>?_⟩
   .rw[List.lookup_cons_self]at h;cases h
    exact⟨t2,by simp⟩
   .rw[List.lookup_cons_self]at h;cases h
  .have hb:(j==k)=false:=by simpa using q
   have i:¬ ((Sum.inr k:Key)=Sum.inr j):=fun z=>q (Sum.inr.inj z).symm
   obtain⟨L,J⟩:=M j
   refine⟨fun G h=>?_,fun h=>?_⟩
   .rw[List.lookup_cons,hb]at h
    obtain⟨t,I⟩:=L G h
    unfold valueAt at I
    exact⟨t,by simpa[i]using I⟩
   .rw[List.lookup_cons,hb]at h
    have:=J h
    unfold valueAt at this
    simpa[i]using this
theorem KTab.dict {t:Addr}{tab:List (Str×Str)}{pins:List (Addr×Obj)}{σ:St}{H:Hp}{s:Shared}(T:KTab X.w X.K t tab)(I:Inv X pins σ H s):∃ kvs:List (Key×Value),s.heap.DictOf (J0 X.prog X.w) t kvs/\∀ k,(∀ v,tab.lookup k=some v->∃ t,valueAt kvs (Sum.inr k)=some (.str v t))/\(tab.lookup k=none->valueAt kvs (Sum.inr k)=none):=by
 obtain⟨es,ep,h1,h2,J⟩:=T.obj
 obtain⟨kvs,R,O,N⟩:=tab_pairs (P:=X.prog) (w:=X.w) h2
 refine⟨kvs,⟨_,es,ep,I.kIn t _ h1,⟨rfl,rfl,rfl⟩,rfl,fun e i=>?_,R,?_⟩,N⟩
 .have key:∀{tab:List (Str×Str)}{es:List DictEntry},tabVs tab es->∀ e∈es,∃ k t,e.key= .str k t:=by
   intro tab
   induction tab with
   |nil=>intro es h e i;cases es with
    |nil=>cases i
    |cons _ _=>exact h.elim
   |cons p r G=>
    intro es h e i
    cases es with
    |nil=>cases i
    |cons S es=>
     obtain⟨⟨q,M⟩,_,L⟩:=h
     rcases List.mem_cons.mp i with z|z
     .subst z;exact⟨_,q,M⟩
     .exact G L e z
  obtain⟨k,tk,j⟩:=key h2 e (by simpa using i)
  exact⟨Sum.inr k,by rw[j];exact keyIs_str k tk,J e (by simpa using i) k tk j⟩
 .rw[O]
  have:=T.nd
  rw[show tab.map (fun p=>(Sum.inr p.1:Key))=(tab.map (·.1)).map Sum.inr by rw[List.map_map];rfl]
  exact List.Pairwise.map _ (fun _ _ h z=>h (Sum.inr.inj z)) this
end
end L2
namespace L2
open PySem PySem.Spec PyProof.Rows
section
variable {prog:Program}{w:World}{A:Around}{E:Value->Shared->Prop}{s:Shared}
structure ApT (z TO i1 i2 l:Addr):Prop where
 lz:l≠z
 lTO:l≠TO
 l1:l≠i1
 l2:l≠i2
end
end L2
namespace L2
open PySem PySem.Spec PyProof.Rows
section
variable {prog:Program}{w:World}{A:Around}{E:Value->Shared->Prop}{s:Shared}
end
section
variable {X:Cx}
end
end L2
namespace L2
open PySem PySem.Spec PyProof.Rows
section
variable {X:Cx}{a b c e:Expr}{ma mb:ME}{la lb:ML}{pos:Pos}
end
section
variable {K:PySem.W.Frag}{F0 H0 F H H':Hp}{σ:St}{ρ:Ro}
end
section
variable {X:Cx}{a b c e3:Expr}{ma mb:ME}{la lb:ML}{pos:Pos}{E:XK}{es:List Expr}{mf:MF}{m:ML}{rb:List Stmt}{mx:MS}{cc:MB}{y:D}
end
end L2
namespace L2
open PySem PySem.Spec PyProof.Rows
noncomputable abbrev MEm:=Ro->Option (D×Ro)
noncomputable abbrev MLm:=Ro->Option (List D×Ro)
noncomputable def TDm (K:PySem.W.Frag)(m:MEm):TE:=fun σ H Q=>∃ F0 H0 F ρ d ρ',Rl K F0 H0 F H σ ρ/\m ρ=some (d,ρ')/\∀ v F' H',Rl K F0 H0 F' H' σ ρ'->Same F F'->Rep K F' v d->Q v H'
noncomputable def TAm (K:PySem.W.Frag)(m:MLm):TA:=fun σ H Q=>∃ F0 H0 F ρ ds ρ',Rl K F0 H0 F H σ ρ/\m ρ=some (ds,ρ')/\∀ vs F' H',Rl K F0 H0 F' H' σ ρ'->Same F F'->Reps K F' vs ds->Q vs H'
noncomputable def PDm (X:Cx)(e:Expr)(m:MEm):Prop:=PE X e (TDm X.K m)
noncomputable def PAm (X:Cx)(es:List Expr)(m:MLm):Prop:=PA X es (TAm X.K m)
section
variable {X:Cx}{a b c e:Expr}{ma mb:ME}{na nb:MEm}{pos:Pos}{es:List Expr}
@[irreducible] noncomputable def mpu (m:ME):MEm:=fun ρ=>match m ρ with |some d=>some (d,ρ)|none=>none
@[irreducible] noncomputable def apu (m:ML):MLm:=fun ρ=>match m ρ with |some d=>some (d,ρ)|none=>none
theorem p5 (h:PD X e ma):PDm X e (mpu ma):=h.imp fun σ H Q i=>by
 obtain⟨F0,H0,F,ρ,d,ρ',j,e,q⟩:=i
 unfold mpu at e
 split at e
 .rename_i d' hm;cases e;exact⟨F0,H0,F,ρ,d,j,hm,fun v F' H' x r=>q v F' H' (j.go x) x.ff r⟩
 .cases e
theorem t4 {m:ML}(h:PAs X es m):PAm X es (apu m):=h.imp fun σ H Q i=>by
 obtain⟨F0,H0,F,ρ,d,ρ',j,e,q⟩:=i
 unfold apu at e
 split at e
 .rename_i d' hm;cases e;exact⟨F0,H0,F,ρ,d,j,hm,fun v F' H' x r=>q v F' H' (j.go x) x.ff r⟩
 .cases e
@[irreducible] noncomputable def m2m (f:D->D->Option D)(x y:MEm):MEm:=fun ρ=>match x ρ with
 |some (d,ρ1)=>(match y ρ1 with |some (e,ρ2)=>(match f d e with |some g=>some (g,ρ2)|none=>none)|none=>none)
 |none=>none
theorem opm_d {r:R2}{f:D->D->Option D}(J:OpD X.K r f){σ:St}{H:Hp}{Q:VK}(h:TDm X.K (m2m f na nb) σ H Q):tOp r (TDm X.K na) (TDm X.K nb) σ H Q:=by
 obtain⟨F0,H0,F,ρ,g,ρ',G,e,q⟩:=h
 unfold m2m at e
 split at e
 .rename_i d ρ1 h1
  split at e
  .rename_i d2 ρ2 h2
   split at e
   .rename_i g' h3
    cases e
    refine⟨F0,H0,F,ρ,d,ρ1,G,h1,fun x F1 H1 j s1 r1=>⟨F0,H0,F1,ρ1,d2,ρ',j,h2,fun y F2 H2 i s2 r2=>?_⟩⟩
    exact J F2 H2 x y d d2 g Q i.fh (r1.mono s2) r2 h3 fun v F' H' z I=>q v F' H' (i.go z) (s1.trans (s2.trans z.ff)) I
   .cases e
  .cases e
 .cases e
theorem T1 {op:Operator}{r:R2}{f:D->D->Option D}(i:OpR X (binaryOp op) r)(j:OpD X.K r f)(ha:PDm X a na)(q:PDm X b nb):PDm X (.BinOp a op b pos) (m2m f na nb):=(pe_op i ha q).imp fun _ _ _ h=>opm_d j h
noncomputable def ixLD:D->D->Option D
 | .lst ds,.int k=>atI ds k
 |_,_=>none
theorem opd_ixL {K:PySem.W.Frag}:OpD K (rIxL K) ixLD:=by
 intro F H x y d e w Q s r1 r2 h q
 cases r1 with
 |lst i j=>
  cases r2 with
  |int k=>
   obtain⟨v,G,z⟩:=atI_reps j (show atI _ k=some w from h)
   exact⟨_,_,k,v,rfl,rfl,s.seq i,G,q v F H (.refl s) z⟩
  |_=>cases h
 |_=>cases r2 <;> cases h
theorem pdm_ix (ha:PDm X a na)(j:PDm X b nb)(i:PlainIx b:=by exact fun _ _=>rfl):PDm X (.Subscript a b pos) (m2m ixLD na nb):=(pe_ix ix_list ha j i).imp fun σ H Q h=>opm_d opd_ixL h
@[irreducible] noncomputable def d7 (x:MEm)(r:MLm):MLm:=fun ρ=>match x ρ with |some (d,ρ1)=>(match r ρ1 with |some (ds,ρ2)=>some (d::ds,ρ2)|none=>none)|none=>none
theorem Y0 {m:MLm}(ha:PDm X a na)(J:PAm X es m)(I:starEach (a::es) X.env=(false,eval a X.env)::starEach es X.env:=by rfl):PAm X (a::es) (d7 na m):=(b9 ha J I).imp fun σ H Q i=>by
 obtain⟨F0,H0,F,ρ,g,ρ',G,e,q⟩:=i
 unfold d7 at e
 split at e
 .rename_i d ρ1 h1
  split at e
  .rename_i ds ρ2 h2
   cases e
   refine⟨F0,H0,F,ρ,d,ρ1,G,h1,fun x F1 H1 z s1 r1=>⟨F0,H0,F1,ρ1,ds,ρ',z,h2,fun xs F2 H2 j s2 r2=>?_⟩⟩
   exact q _ F2 H2 j (s1.trans s2) (.cons (r1.mono s2) r2)
  .cases e
 .cases e
@[irreducible] noncomputable def mlstm (m:MLm):MEm:=fun ρ=>match m ρ with |some (ds,ρ1)=>if ds.length<=sizeLine then some (.lst ds,ρ1)else none|none=>none
theorem pdm_lst {m:MLm}(h:PAm X es m):PDm X (.List es pos) (mlstm m):=(pe_lst h).imp fun σ H Q j=>by
 obtain⟨F0,H0,F,ρ,g,ρ',z,e,q⟩:=j
 unfold mlstm at e
 split at e
 .rename_i ds ρ1 h1
  split at e
  .rename_i hz
   cases e
   refine⟨F0,H0,F,ρ,ds,ρ',z,h1,fun vs F1 H1 i s1 r1=>⟨by rw[r1.length];exact hz,fun p hp=>?_⟩⟩
   have x:=Ext.laid (o:=.lst vs) i.fh hp
   exact q _ _ _ (i.go x) (s1.trans x.ff) (.lst (SqL.of x8) (r1.mono x.ff))
  .cases e
 .cases e
@[irreducible] noncomputable def G1 (f:List D->Option D)(m:MLm):MEm:=fun ρ=>match m ρ with |some (ds,ρ1)=>(match f ds with |some d=>some (d,ρ1)|none=>none)|none=>none
theorem callm_d {r:List V->Hp->VK->Prop}{f:List D->Option D}{m:MLm}(G:CallD X.K r f){σ:St}{H:Hp}{Q:VK}(h:TDm X.K (G1 f m) σ H Q):tCB r (TAm X.K m) σ H Q:=by
 obtain⟨F0,H0,F,ρ,g,ρ',z,e,q⟩:=h
 unfold G1 at e
 split at e
 .rename_i ds ρ1 h1
  split at e
  .rename_i d h2
   cases e
   exact⟨F0,H0,F,ρ,ds,ρ',z,h1,fun vs F1 H1 i s1 r1=>G F1 H1 vs ds g Q i.fh r1 h2 fun v F' H' j r2=>q v F' H' (i.go j) (s1.trans j.ff) r2⟩
  .cases e
 .cases e
variable {st:Stmt}
@[irreducible] noncomputable def W8 (i:Nat)(x:MEm):MS:=fun ρ=>match x ρ with |some (d,ρ1)=>some (.nx (ρ1.set i (some (.sh d))))|none=>none
theorem Z7 {i:Nat}{x:Str}{pos':Pos}(M:X.N.Nodup)(hi:X.N[i]? =some x)(G:Loc X.env.scope x)(L:PDm X e na)(I:swapsWith e (some (.Name x pos')) pos.line X.env=pure false:=by rfl)(J:X.fn x=true\/X.env.scope.names.lookup x=some .local:=by first|exact .inl rfl|exact .inr rfl|assumption):
  PSd X (.Assign [.Name x pos'] e pos) (W8 i na):=(ps_set M hi G L I J).imp fun D σ H j=>by
 obtain⟨F0,H0,F,ρ,o,z,e,ok⟩:=j
 unfold W8 at e
 split at e
 .rename_i d ρ1 h1
  cases e
  exact⟨F0,H0,F,ρ,d,ρ1,z,h1,fun v F1 H1 q s1 r1=>ok F1 H1 _ (q.set r1) s1⟩
 .cases e
@[irreducible] noncomputable def W0 (i:Nat)(x:MEm):MS:=fun ρ=>match x ρ with
 |some (d,ρ1)=>(match ρ1[i]? with |some (some (.ob p r))=>some (.rg d p r)|_=>none)
 |none=>none
theorem j5 (i:Nat)(L:PDm X e na):PSd X (.Return (some e) pos) (W0 i na):=(ps_ret L).imp fun D σ H q=>by
 obtain⟨F0,H0,F,ρ,o,z,e,ok⟩:=q
 unfold W0 at e
 split at e
 .rename_i d ρ1 h1
  split at e
  .rename_i p r h2
   cases e
   refine⟨F0,H0,F,ρ,d,ρ1,z,h1,fun v F1 H1 j s1 r1=>?_⟩
   obtain⟨N,J,M,xs,I,G⟩:=j.ob i p r h2
   exact ok v F1 H1 xs j.ext r1 J I G
  .cases e
 .cases e
end
noncomputable abbrev MG:=Addr->List D->List D->Option (Rt×List D)
noncomputable def del (H:Hp)(p:Addr):Hp:=fun b=>if b=p then none else H b
theorem M2 {H:Hp}{p:Addr}:del H p p=none:=by unfold del;rw[if_pos rfl]
theorem W7 {H:Hp}{p b:Addr}(h:b≠p):del H p b=H b:=by unfold del;rw[if_neg h]
noncomputable def okG (K:PySem.W.Frag)(F H:Hp)(p:Addr)(Q:VK)(r':List D):Rt->Prop
 | .sh d=>∀ v F' H' xs,Ext F (del H p) F' H'->Rep K F' v d->F' p=none->H' p=some (.lst xs)->Reps K F' xs r'->Q v H'
 | .fr ds=>∀ q ys F' H' xs,Ext F (del H p) F' H'->H q=none->F' q=none->H' q=some (.lst ys)->Reps K F' ys ds->F' p=none->H' p=some (.lst xs)->Reps K F' xs r'->Q (.ref q) H'
 | .pr _ _=>False
noncomputable def spG (K:PySem.W.Frag)(n:Nat)(m:MG):Sp:=fun vs H Q _=>vs.length=n/\∃ p ws F r0 ds r r1 xs,vs= .ref p::ws/\H p=some (.lst xs)/\F p=none/\Same F H/\Reps K F xs r0/\Reps K F ws ds/\m p r0 ds=some (r,r1)/\okG K F H p Q r1 r
noncomputable def R0 (n:Nat)(p:Addr)(r:List D)(ds:List D):Ro:=some (.ob p r)::p9 (n-1) ds
noncomputable def runG (n:Nat)(m:MS):MG:=fun p r ds=>match m (R0 n p r ds)with
 |some (.rg d q r')=>if q=p then some (.sh d,r')else none
 |some (.rgf es q r')=>if q=p then some (.fr es,r')else none
 |_=>none
theorem rl_startG {K:PySem.W.Frag}{F H:Hp}{N:List Str}{p:Addr}{xs ws:List V}{r ds:List D}(hn:0<N.length)(s:Same F H)(M:F p=none)(L:H p=some (.lst xs))(J:Reps K F xs r)(I:Reps K F ws ds):Rl K F (del H p) F H (T4 N (.ref p::ws)) (R0 N.length p r ds):=by
 have O:T4 N (.ref p::ws)=some (.ref p)::T4 N.tail ws:=by
  unfold T4
  rw[List.map_cons,List.cons_append,List.length_cons,List.length_tail]
  congr 2
  congr 1
  omega
 have e1:R0 N.length p r ds=some (.ob p r)::p9 N.tail.length ds:=by unfold R0;rw[List.length_tail]
 have base:=rl_start (N:=N.tail) s I
 have only:∀(j:Nat) x,(p9 N.tail.length ds)[j]? =some (some x)->∃ d,x=S.sh d:=fun j x e=>by
  unfold p9 at e
  by_cases hi:j<ds.length
  .rw[List.getElem?_append_left (by simpa using hi),List.getElem?_map]at e
   cases q:ds[j]? with
   |none=>rw[q]at e;cases e
   |some d=>rw[q]at e;cases e;exact⟨d,rfl⟩
  .rw[List.getElem?_append_right (by simpa using hi),List.getElem?_replicate]at e
   split at e <;> cases e
 rw[O,e1]
 refine⟨⟨Same.refl F,fun b o e=>?_,s,fun b e n=>absurd e n,fun _ _ _ z=>z⟩,by rw[List.length_cons,List.length_cons,base.len],fun i d e=>?_,fun i es e=>?_,fun i j q es G _ e=>?_,fun i q es e=>?_,fun i j q es G e e2=>?_,fun i j q R es G e e2=>?_⟩
 .by_cases hb:b=p
  .subst hb;rw[M2]at e;cases e
  .rw[W7 hb]at e;exact e
 .cases i with
  |zero=>cases e
  |succ i=>exact base.sh i d e
 .cases i with
  |zero=>cases e
  |succ i=>obtain⟨d,z⟩:=only i _ e;cases z
 .cases i with
  |zero=>cases e
  |succ i=>obtain⟨d,z⟩:=only i _ e;cases z
 .cases i with
  |zero=>cases e;exact⟨rfl,M,M2,xs,L,J⟩
  |succ i=>obtain⟨d,z⟩:=only i _ e;cases z
 .cases j with
  |zero=>cases e2
  |succ j=>obtain⟨d,z⟩:=only j _ e2;cases z
 .cases i with
  |zero=>
   cases j with
   |zero=>rfl
   |succ j=>obtain⟨d,z⟩:=only j _ e2;cases z
  |succ i=>obtain⟨d,z⟩:=only i _ e;cases z
theorem Fun.okGl {P:Program}{w:World}{K:PySem.W.Frag}{mg:Str->Option Value}{base:Heap}{x qual:Str}{st:Stmt}{f:Addr}{fd:FuncData}{N ps:List Str}{k:Nat}{m:MS}(Fn:Fun K x qual st f fd)(Sc:FnScope N ps (y6 st))(hn:0<N.length)
  (z:∀(cdv:Value)(A:Around)(outer:List Env)(s:Shared)(H:Hp)(E:XK),Room k (A.deeper (envOfC qual (y6 st) s.heap.objs.size f cdv))->PSsd (cxOf CX0 P w K mg base N qual (y6 st) f cdv A outer s H E).nox (v7 st) m):
  FnOk P w K mg base CX0 (k+1) f fd ps (spG K ps.length (runG N.length m)):=by
 refine Fn.ok Sc (fun vs H Q E h=>h.1) fun cdv A outer s H vs Q E Z h=>?_
 obtain⟨hl,p,ws,F,r0,ds,r,r1,xs,rfl,hH,hF,O,rx,S,e,ok⟩:=h
 unfold runG at e
 cases h1:m (R0 N.length p r0 ds)with
 |none=>rw[h1]at e;cases e
 |some o=>
  rw[h1]at e
  refine⟨_,z cdv A outer s H E Z,F,del H p,F,R0 N.length p r0 ds,o,rl_startG hn O hF hH rx S,h1,?_⟩
  cases o with
  |rg d q G=>
   have e:(if q=p then some (Rt.sh d,G)else none)=some (r,r1):=e
   by_cases j:q=p
   .rw[if_pos j]at e
    cases e
    subst j
    exact fun v F' H' i x R L h1 rr=>ok v F' H' i x R L h1 rr
   .rw[if_neg j]at e;cases e
  |rgf es q G=>
   have e:(if q=p then some (Rt.fr es,G)else none)=some (r,r1):=e
   by_cases j:q=p
   .rw[if_pos j]at e
    cases e
    subst j
    exact fun Y ys F' H' i x M f0 J I U L h1 rr=>ok Y ys F' H' i x (by rw[W7 J]at M;exact M) f0 I U L h1 rr
   .rw[if_neg j]at e;cases e
  |nx _=>cases e
  |bk _=>cases e
  |ct _=>cases e
  |rt _=>cases e
  |rf _=>cases e
  |rp _ _=>cases e
end L2
namespace L2
open PySem PySem.Spec PyProof.Rows
section
variable {K:PySem.W.Frag}{F0 H0 F H F' H':Hp}{σ:St}{ρ:Ro}
theorem Ext.lent (a:Ext F0 H0 F H){p:Addr}(q:H0 p=none)(x:Ext F (del H p) F' H'):Ext F0 H0 F' H':=
 ⟨a.ff.trans x.ff,fun b o e=>by
  have i:b≠p:=fun z=>by rw[z,q]at e;cases e
  exact x.hh b o (by rw[W7 i];exact a.hh b o e),x.fh,fun b e n=>by
  by_cases j:F b=none
  .by_cases i:b=p
   .rw[i];exact q
   .have:=x.new b j n
    rw[W7 i]at this
    exact a.hh.free this
  .exact a.new b e j,fun b o u z=>a.nf b o u (x.nf b o u z)⟩
theorem Rl.lent (r:Rl K F0 H0 F H σ ρ){i:Nat}{p:Addr}{xs:List V}{r0 r1:List D}(h:ρ[i]? =some (some (.own r0)))(hp:σ[i]? =some (some (.ref p)))(x:Ext F (del H p) F' H')(hF:F' p=none)(hH:H' p=some (.lst xs))(hr:Reps K F' xs r1):Rl K F0 H0 F' H' σ (ρ.set i (some (.own r1))):=by
 obtain⟨p',a0,a,b,c,d,z⟩:=r.own i r0 h
 rw[hp]at a;cases a
 have hl:i<ρ.length:=(List.getElem?_eq_some_iff.mp h).1
 have J:∀ q,q≠p->F q=none->(∃ o,H q=some o)->F' q=none:=fun q O f N=>by
  obtain⟨o,R⟩:=N
  cases w:F' q with
  |none=>rfl
  |some u=>have:=x.new q f (by rw[w];simp);rw[W7 O,R]at this;cases this
 have I:∀ q o,q≠p->H q=some o->H' q=some o:=fun q o O R=>x.hh q o (by rw[W7 O];exact R)
 have G:∀(j:Nat) fs,(ρ.set i (some (S.own r1)))[j]? =some (some (.own fs))->(j=i/\fs=r1)\/(i≠j/\ρ[j]? =some (some (.own fs))):=fun j fs e=>by
  by_cases M:i=j
  .subst M;rw[List.getElem?_set_self hl]at e;cases e;exact .inl ⟨rfl,rfl⟩
  .rw[List.getElem?_set_ne M]at e;exact .inr ⟨M,e⟩
 refine⟨r.ext.lent z x,by simp[r.len],fun j d' q=>?_,fun j fs q=>?_,fun j k q fs fs' U e1 e2 e3 e4=>?_,fun j q fs e1=>?_,fun j k q fs fs' e1 e2 e3=>?_,fun j k q q' es Y e1 e2=>r.ob1 j k q q' es Y (m8 e1).2 (m8 e2).2⟩
 .by_cases M:i=j
  .subst M;rw[List.getElem?_set_self hl]at q;cases q
  .rw[List.getElem?_set_ne M]at q
   obtain⟨v,v1,v2⟩:=r.sh j d' q
   exact⟨v,v1,v2.mono x.ff⟩
 .rcases G j fs q with⟨rfl,rfl⟩|⟨n,e⟩
  .exact⟨p,xs,hp,hF,hH,hr,z⟩
  .obtain⟨p2,xs2,a2,Z,c2,d2,z2⟩:=r.own j fs e
   have L:p2≠p:=fun w=>r.inj i j p r0 fs n h e hp (by rw[<-w];exact a2)
   exact⟨p2,xs2,a2,J p2 L Z ⟨_,c2⟩,I _ _ L c2,d2.mono x.ff,z2⟩
 .have b1:∃ g,ρ[j]? =some (some (.own g)):=by
   rcases G j fs e1 with⟨rfl,_⟩|⟨_,w⟩
   .exact⟨_,h⟩
   .exact⟨_,w⟩
  have Z:∃ g,ρ[k]? =some (some (.own g)):=by
   rcases G k fs' e2 with⟨rfl,_⟩|⟨_,w⟩
   .exact⟨_,h⟩
   .exact⟨_,w⟩
  obtain⟨g1,w1⟩:=b1
  obtain⟨g2,w2⟩:=Z
  exact r.inj j k q g1 g2 U w1 w2 e3 e4
 .obtain⟨n,e1⟩:=m8 e1
  obtain⟨o1,o2,o3,zs,o4,o5⟩:=r.ob j q fs e1
  have L:q≠p:=fun w=>r.obn j i q fs r0 e1 h (by rw[w];exact hp)
  exact⟨o1,J q L o2 ⟨_,o4⟩,o3,zs,I _ _ L o4,o5.mono x.ff⟩
 .obtain⟨n,e5⟩:=m8 e1
  rcases G k fs' e2 with⟨e6,_⟩|⟨_,w⟩
  .rw[e6]at e3;exact r.obn j i q fs r0 e5 h e3
  .exact r.obn j k q fs fs' e5 w e3
theorem Rl.lentB (r:Rl K F0 H0 F H σ ρ){i:Nat}{p:Addr}{xs:List V}{r0 r1:List D}(h:ρ[i]? =some (some (.ob p r0)))(x:Ext F (del H p) F' H')(hF:F' p=none)(hH:H' p=some (.lst xs))(hr:Reps K F' xs r1):Rl K F0 H0 F' H' σ (ρ.set i (some (.ob p r1))):=by
 obtain⟨a,b,z,a1,c,d⟩:=r.ob i p r0 h
 have Z:i<ρ.length:=(List.getElem?_eq_some_iff.mp h).1
 have L:∀ q,q≠p->F q=none->(∃ o,H q=some o)->F' q=none:=fun q U f N=>by
  obtain⟨o,Y⟩:=N
  cases w:F' q with
  |none=>rfl
  |some u=>have:=x.new q f (by rw[w];simp);rw[W7 U,Y]at this;cases this
 have J:∀ q o,q≠p->H q=some o->H' q=some o:=fun q o U Y=>x.hh q o (by rw[W7 U];exact Y)
 have G:∀(j:Nat) q fs,(ρ.set i (some (S.ob p r1)))[j]? =some (some (.ob q fs))->j=i/\q=p/\fs=r1:=fun j q fs e=>by
  by_cases I:i=j
  .subst I;rw[List.getElem?_set_self Z]at e;cases e;exact⟨rfl,rfl,rfl⟩
  .rw[List.getElem?_set_ne I]at e;exact absurd (r.ob1 i j p q r0 fs h e) I
 have other:∀(j:Nat) fs,(ρ.set i (some (S.ob p r1)))[j]? =some (some (.own fs))->i≠j/\ρ[j]? =some (some (.own fs)):=fun j fs e=>by
  by_cases I:i=j
  .subst I;rw[List.getElem?_set_self Z]at e;cases e
  .rw[List.getElem?_set_ne I]at e;exact⟨I,e⟩
 refine⟨r.ext.lent z x,by simp[r.len],fun j d' q=>?_,fun j fs q=>?_,fun j k q fs fs' a0 e1 e2 e3 O=>r.inj j k q fs fs' a0 (other j fs e1).2 (other k fs' e2).2 e3 O,fun j q fs e1=>?_,fun j k q fs fs' e1 e2 e3=>?_,fun j k q q' fs fs' e1 e2=>?_⟩
 .by_cases I:i=j
  .subst I;rw[List.getElem?_set_self Z]at q;cases q
  .rw[List.getElem?_set_ne I]at q
   obtain⟨v,v1,v2⟩:=r.sh j d' q
   exact⟨v,v1,v2.mono x.ff⟩
 .obtain⟨n,e⟩:=other j fs q
  obtain⟨p2,R,a2,b2,c2,d2,z2⟩:=r.own j fs e
  have M:p2≠p:=fun w=>r.obn i j p r0 fs h e (by rw[<-w];exact a2)
  exact⟨p2,R,a2,L p2 M b2 ⟨_,c2⟩,J _ _ M c2,d2.mono x.ff,z2⟩
 .obtain⟨e2,e3,O⟩:=G j q fs e1
  subst e2 e3 O
  exact⟨a,hF,z,xs,hH,hr⟩
 .obtain⟨O,e5,_⟩:=G j q fs e1
  subst O e5
  exact r.obn j k q r0 fs' h (other k fs' e2).2 e3
 .rw[(G j q fs e1).1,(G k q' fs' e2).1]
end
open Classical in
noncomputable def anyP {α:Type}(f:Addr->Option α):Option α:=if h:∃ x,∀ p,f p=some x then some (Classical.choose h)else none
theorem anyP_some {i:Type}{f:Addr->Option i}{x:i}(h:anyP f=some x):∀ p,f p=some x:=by
 unfold anyP at h
 split at h
 .rename_i hx
  cases h
  exact Classical.choose_spec hx
 .cases h
theorem anyP_of {i:Type}{f:Addr->Option i}{x:i}(h:∀ p,f p=some x):anyP f=some x:=by
 unfold anyP
 have j:∃ x,∀ p,f p=some x:=⟨x,h⟩
 rw[dif_pos j]
 have:=Classical.choose_spec j 0
 rw[h 0]at this
 exact this.symm
noncomputable def rtD:Rt->Option D
 | .sh d=>some d
 | .fr es=>some (.lst es)
 | .pr _ _=>none
@[irreducible] noncomputable def t9 (f:MG)(i:Nat)(m:MLm):MEm:=fun ρ=>match ρ[i]? with
 |some (some (.own _))=>(match m ρ with
  |some (ds,ρ1)=>(match ρ1[i]? with
   |some (some (.own r0))=>(match anyP (fun p=>f p r0 ds)with
    |some (t,r1)=>(match rtD t with |some d=>some (d,ρ1.set i (some (.own r1)))|none=>none)
    |none=>none)
   |_=>none)
  |none=>none)
 |some (some (.ob _ _))=>(match m ρ with
  |some (ds,ρ1)=>(match ρ1[i]? with
   |some (some (.ob p r0))=>(match f p r0 ds with
    |some (t,r1)=>(match rtD t with |some d=>some (d,ρ1.set i (some (.ob p r1)))|none=>none)
    |none=>none)
   |_=>none)
  |none=>none)
 |_=>none
theorem n9 {m:ML}{n:Nat}(h:∀ ρ ds,m ρ=some ds->ds.length=n)(ρ:Ro)(ds:List D)(ρ':Ro)(e:apu m ρ=some (ds,ρ')):ds.length=n:=by
 unfold apu at e
 split at e
 .rename_i d hm;cases e;exact h ρ _ hm
 .cases e
theorem C2 {x:MEm}{r:MLm}{n:Nat}(i:∀ ρ ds ρ',r ρ=some (ds,ρ')->ds.length=n)(ρ:Ro)(ds:List D)(ρ':Ro)(h:d7 x r ρ=some (ds,ρ')):ds.length=n+1:=by
 unfold d7 at h
 split at h
 .rename_i d ρ1 h1
  split at h
  .rename_i ds' ρ2 h2;cases h;rw[List.length_cons,i ρ1 ds' _ h2]
  .cases h
 .cases h
section
variable {X:Cx}{e:Expr}{pos:Pos}{es:List Expr}{E:XK}{mf:MG}{m:MLm}
theorem u9 {n i:Nat}{x:Str}{px:Pos}(h:∀ t,PA X (.Name x px::es) t->PE X e (tCall (spG X.K n mf) [] E t))(hl:es.length+1=n)(hv:PE X (.Name x px) (tVar i))(ha:PAm X es m)(hm:∀ ρ ds ρ',m ρ=some (ds,ρ')->ds.length=es.length)
  (hs:starEach (.Name x px::es) X.env=(false,eval (.Name x px) X.env)::starEach es X.env:=by rfl):PDm X e (t9 mf i m):=(h _ (b9 hv ha hs)).imp fun σ H Q U=>by
 obtain⟨F0,H0,F,ρ,d,ρ',rl,e,q⟩:=U
 unfold t9 at e
 split at e
 .rename_i r00 h0
  obtain⟨p,xs,M,a2,a3,a4,a5⟩:=rl.own i r00 h0
  split at e
  .rename_i ds ρ1 h1
   split at e
   .rename_i r0 h2
    split at e
    .rename_i t r1 Y
     split at e
     .rename_i d' h4
      cases e
      have Y:=anyP_some Y
      refine⟨_,M,F0,H0,F,ρ,ds,ρ1,rl,h1,fun vs F1 H1 j s1 S=>?_⟩
      obtain⟨p',ys,b1,b2,b3,b4,b5⟩:=j.own i r0 h2
      rw[M]at b1;cases b1
      show spG X.K n mf ((.ref p::vs)++[]) H1 Q E
      rw[List.append_nil]
      refine⟨by rw[List.length_cons,S.length,hm ρ ds ρ1 h1,hl],p,vs,F1,r0,ds,t,r1,ys,rfl,b3,b2,j.fh,b4,S,Y p,?_⟩
      cases t with
      |sh g=>
       cases h4
       exact fun v F' H' zs x rg L J I=>q v F' H' (j.lent h2 M x L J I) (s1.trans x.ff) rg
      |fr gs=>
       cases h4
       intro w zs F' H' us x hw Z O N L J I
       have G:w≠p:=fun z=>by rw[z,b3]at hw;cases hw
       have a0:=j.lent h2 M x L J I
       have fz:Ext F' H' (upd F' w (.lst zs)) H'->True:=fun _=>True.intro
       have R:Ext F1 (del H1 p) (upd F' w (.lst zs)) H':=x.freeze Z (by rw[W7 G];exact hw) O
       have s2:Same F' (upd F' w (.lst zs)):=(Same.refl F').put Z
       exact q _ (upd F' w (.lst zs)) H' (j.lent h2 M R (by rw[w5 (Ne.symm G)];exact L) J (I.mono s2)) (s1.trans R.ff) (.lst (SqL.of x8) (N.mono s2))
      |pr _ _=>cases h4
     .cases e
    .cases e
   .cases e
  .cases e
 .rename_i p00 r00 h0
  obtain⟨M,a2,a5,xs,a3,a4⟩:=rl.ob i p00 r00 h0
  split at e
  .rename_i ds ρ1 h1
   split at e
   .rename_i p r0 h2
    split at e
    .rename_i t r1 Y
     split at e
     .rename_i d' h4
      cases e
      refine⟨_,M,F0,H0,F,ρ,ds,ρ1,rl,h1,fun vs F1 H1 j s1 S=>?_⟩
      obtain⟨b1,b2,b5,ys,b3,b4⟩:=j.ob i p r0 h2
      rw[M]at b1;cases b1
      show spG X.K n mf ((.ref p00::vs)++[]) H1 Q E
      rw[List.append_nil]
      refine⟨by rw[List.length_cons,S.length,hm ρ ds ρ1 h1,hl],p00,vs,F1,r0,ds,t,r1,ys,rfl,b3,b2,j.fh,b4,S,Y,?_⟩
      cases t with
      |sh g=>
       cases h4
       exact fun v F' H' zs x rg L J I=>q v F' H' (j.lentB h2 x L J I) (s1.trans x.ff) rg
      |fr gs=>
       cases h4
       intro w zs F' H' us x hw Z O N L J I
       have G:w≠p00:=fun z=>by rw[z,b3]at hw;cases hw
       have R:Ext F1 (del H1 p00) (upd F' w (.lst zs)) H':=x.freeze Z (by rw[W7 G];exact hw) O
       have s2:Same F' (upd F' w (.lst zs)):=(Same.refl F').put Z
       exact q _ (upd F' w (.lst zs)) H' (j.lentB h2 R (by rw[w5 (Ne.symm G)];exact L) J (I.mono s2)) (s1.trans R.ff) (.lst (SqL.of x8) (N.mono s2))
      |pr _ _=>cases h4
     .cases e
    .cases e
   .cases e
  .cases e
 .cases e
end
end L2
namespace L2
open PySem PySem.Spec PyProof.Rows
section
variable {X:Cx}{a b c e:Expr}{ma mb:ME}{pos:Pos}
end
end L2
namespace L2
open PySem PySem.Spec PyProof.Rows
noncomputable def LtAt (A:Around)(s:Shared)(v u:Value)(k:Bool):Prop:=∀(prog:Program)(w:World)(E:Value->Shared->Prop)(Q:Value->Shared->Prop),Q (.bool k) s->wpAny (model prog w) A (richCompare .Lt v u) Q E s
noncomputable def LexAt (A:Around)(s:Shared):List Value->List Value->Bool->Prop
 |[],[],k=>k=false
 |[],_::_,k=>k=true
 |_::_,[],k=>k=false
 |y::ys,x::xs,k=>∃ e,SeqAt.EqAt A s y x e/\((e=true/\LexAt A s ys xs k)\/(e=false/\LtAt A s y x k))
section
open PySem.SeqAt
open PySem.AutoSeq1 (wpAny_loadPart')
open PySem.MeetsSeq PySem.MeetsSeq2 PySem.MeetsSeq3
set_option maxHeartbeats 4000000 in
theorem tup_lt (l b:Addr)(j i:Array Value)(n S:Nat)(dd O:Option Addr)(sl L:Array (Option Value))(k:Bool):
  Meets (Builtin.«tuple.__lt__» ⟨[.ref l,.ref b],[]⟩)
   (fun A R s=>s.heap.get? l=some { cls:=.type "tuple",dict:=dd,data:=.seq j n,slots:=sl }/\s.heap.get? b=some { cls:=.type "tuple",dict:=O,data:=.seq i S,slots:=L }/\
    LexAt A.in1 s j.toList i.toList k/\R (.ok (.ret (.bool k))) s):=
 .of_wp fun prog w A R s h=>by
  obtain⟨hp,g,d,tk,os⟩:=s;obtain⟨hl,hb,Y,h⟩:=h
  have f2:=AutoSeq1.sub_tuple_tuple
  wp_walk using wpAny_loadPart' hl,wpAny_loadPart' hb,wpAny_forIn_list _ (fun rest b s'=>b.1=none/\s'=⟨hp,g,d,tk,os⟩/\∃(vs ws:List Value),rest=vs.zip ws/\
   vs.length+i.size=ws.length+j.size/\LexAt A.in1 ⟨hp,g,d,tk,os⟩ vs ws k) _
  case turn=>
   rintro⟨y,x⟩ rest b s' ⟨J,rfl,vs,ws,G,q,z⟩
   cases vs with
   |nil=>rw[List.zip_nil_left]at G;cases G
   |cons a vs=>
    cases ws with
    |nil=>rw[List.zip_nil_right]at G;cases G
    |cons c ws=>
     rw[List.zip_cons_cons]at G
     injection G with M I
     injection M with U N
     subst U N
     simp only[List.length_cons]at q
     obtain⟨e,he,z⟩:=z
     refine wpAny_bind (he prog w _ _ ?_)
     rcases z with⟨rfl,z⟩|⟨rfl,z⟩
     .wp_walk
      exact⟨rfl,rfl,vs,ws,I,by omega,z⟩
     .have hri:=z prog w
      wp_walk using hri
      exact⟨_,rfl,by simpa using h⟩
  case fin=>
   rintro⟨b1,b2⟩ s' ⟨J,rfl,vs,ws,G,q,z⟩
   simp only at J
   subst J
   have Z:k=decide (j.size<i.size):=by
    cases vs with
    |nil=>
     cases ws with
     |nil=>
      simp only[List.length_nil]at q
      rw[show k=false from z]
      exact(decide_eq_false (by omega)).symm
     |cons c ws=>
      simp only[List.length_nil,List.length_cons]at q
      rw[show k=true from z]
      exact(decide_eq_true (by omega)).symm
    |cons a vs=>
     cases ws with
     |nil=>
      simp only[List.length_nil,List.length_cons]at q
      rw[show k=false from z]
      exact(decide_eq_false (by omega)).symm
     |cons c ws=>
      rw[List.zip_cons_cons]at G
      cases G
   rw[Z]at h
   wp_walk
   exact⟨_,rfl,by simpa[Builtin.Tuple.tupleCompareSizes]using h⟩
  case h=>
   exact⟨rfl,rfl,j.toList,i.toList,rfl,by simp;omega,Y⟩
set_option maxHeartbeats 4000000 in
theorem lst_lt_loop (l b:Addr)(q j:Array Value)(n Y:Nat)(dd U:Option Addr)(sl O:Array (Option Value))(r:Bool)(k:Nat):
  ∀ i:Nat,q.size-i=k->i<=q.size->i<=j.size->Meets (Builtin.«list.__eq__.loop» ⟨[.ref l,.ref b,rawInt i,rawInt 0],[]⟩)
   (fun A R s=>s.heap.get? l=some { cls:=.type "list",dict:=dd,data:=.seq q n,slots:=sl }/\s.heap.get? b=some { cls:=.type "list",dict:=U,data:=.seq j Y,slots:=O }/\
    LexAt A.in1 s (q.toList.drop i) (j.toList.drop i) r/\R (.ok (.ret (.bool r))) s):=by
 induction k with
 |zero=>
  intro i hk h1 h2 prog w A R s h
  obtain⟨hp,g,d,tk,os⟩:=s;obtain⟨L,M,G,h⟩:=h
  wp_walk using wpAny_loadPart' L,wpAny_loadPart' M
  have I:q[((i:Nat):Int).toNat]? =none:=by simp;omega
  have e1:q.toList.drop i=[]:=List.drop_eq_nil_of_le (by simp;omega)
  rw[e1]at G
  have S:r=decide (q.size<j.size):=by
   cases e2:j.toList.drop i with
   |nil=>
    rw[e2]at G
    have:j.size<=i:=by simpa using e2
    rw[show r=false from G]
    exact(decide_eq_false (by omega)).symm
   |cons c ws=>
    rw[e2]at G
    have:i<j.size:=by
     rcases Nat.lt_or_ge i j.size with z|z
     .exact z
     .rw[List.drop_eq_nil_of_le (by simpa using z)]at e2;cases e2
    rw[show r=true from G]
    exact(decide_eq_true (by omega)).symm
  rw[I]
  wp_walk using wpAny_loadPart' L,wpAny_loadPart' M
  rw[S]at h
  exact h
 |succ k Z=>
  intro i hk h1 h2 prog w A R s h
  obtain⟨hp,g,d,tk,os⟩:=s;obtain⟨L,M,G,h⟩:=h
  have N:i<q.size:=by omega
  have I:q[((i:Nat):Int).toNat]? =some q[i]:=by simp[N]
  have e1:q.toList.drop i=q[i]::q.toList.drop (i+1):=by rw[List.drop_eq_getElem_cons (by simpa using N)];simp
  have hc:((i:Int)+1)=((i+1:Nat):Int):=by push_cast;rfl
  rw[e1]at G
  by_cases J:i<j.size
  .have hi2:j[((i:Nat):Int).toNat]? =some j[i]:=by simp[J]
   have e2:j.toList.drop i=j[i]::j.toList.drop (i+1):=by rw[List.drop_eq_getElem_cons (by simpa using J)];simp
   rw[e2]at G
   obtain⟨e,he,G⟩:=G
   wp_walk using wpAny_loadPart' L,wpAny_loadPart' M
   rw[I,hi2]
   refine wpAny_bind (he prog w _ _ ?_)
   rcases G with⟨rfl,G⟩|⟨rfl,G⟩
   .wp_walk
    rw[hc]
    exact⟨plainId_quiet plain_eq_loop _,codeAny_builtin entry_eq_loop (by
     rw[Around.under_plainId plain_eq_loop _]
     exact Z (i+1) (by omega) (by omega) (by omega) prog w A R _ ⟨L,M,G,h⟩)⟩
   .have hri:=G prog w
    wp_walk using wpAny_loadPart' L,wpAny_loadPart' M
    rw[I,hi2]
    wp_walk using hri
    exact h
  .have hi2:j[((i:Nat):Int).toNat]? =none:=by simp;omega
   have e2:j.toList.drop i=[]:=List.drop_eq_nil_of_le (by simp;omega)
   rw[e2]at G
   have S:r=decide (q.size<j.size):=by
    rw[show r=false from G]
    exact(decide_eq_false (by omega)).symm
   wp_walk using wpAny_loadPart' L,wpAny_loadPart' M
   rw[I,hi2]
   wp_walk using wpAny_loadPart' L,wpAny_loadPart' M
   rw[S]at h
   exact h
set_option maxHeartbeats 4000000 in
theorem lst_lt (l b:Addr)(j i:Array Value)(n G:Nat)(L z:Option Addr)(sl q:Array (Option Value))(r:Bool):
  Meets (Builtin.«list.__lt__» ⟨[.ref l,.ref b],[]⟩)
   (fun A R s=>s.heap.get? l=some { cls:=.type "list",dict:=L,data:=.seq j n,slots:=sl }/\s.heap.get? b=some { cls:=.type "list",dict:=z,data:=.seq i G,slots:=q }/\
    LexAt A.in1 s j.toList i.toList r/\R (.ok (.ret (.bool r))) s):=by
 intro prog w A R s h
 obtain⟨hp,g,d,tk,os⟩:=s;obtain⟨I,J,M,h⟩:=h
 have N:=AutoSeq1.sub_list_list
 wp_walk using wpAny_loadPart' I,wpAny_loadPart' J
 exact⟨plainId_quiet plain_eq_loop _,codeAny_builtin entry_eq_loop (by
  rw[Around.under_plainId plain_eq_loop _]
  exact lst_lt_loop l b j i n G L z sl q r _ 0 rfl (Nat.zero_le _) (Nat.zero_le _) prog w A R _ ⟨I,J,by simpa using M,h⟩)⟩
end
noncomputable def lexF (eq lt:D->D->Option Bool):List D->List D->Option Bool
 |[],[]=>some false
 |[],_::_=>some true
 |_::_,[]=>some false
 |d::ds,e::es=>match eq d e with
  |some true=>lexF eq lt ds es
  |some false=>lt d e
  |none=>none
noncomputable def ltF:Nat->D->D->Option Bool
 |0,_,_=>none
 |n+1,.lst ds,.lst es=>lexF (eqF n) (ltF n) ds es
 |n+1,.tup ds,.tup es=>lexF (eqF n) (ltF n) ds es
 |_+1,.int i,.int j=>some (decide (i<j))
 |_+1,_,_=>none
section
variable {X:Cx}{pins:List (Addr×Obj)}{σ:St}{H:Hp}{s:Shared}
theorem lex_at (I:Inv X pins σ H s)(n:Nat){A:Around}(j:A.units+n<cLine)(i:∀{x y:V}{v u:Value}{d e:D}{k:Bool},Rep X.K H x d->Rep X.K H y e->RelV x v->RelV y u->ltF n d e=some k->LtAt A s v u k):
  ∀{xs ys:List V}{vs us:List Value}{ds es:List D}{k:Bool},Reps X.K H xs ds->Reps X.K H ys es->Vals xs vs->Vals ys us->lexF (eqF n) (ltF n) ds es=some k->LexAt A s vs us k
 |_,_,_,_,_,_,k,.nil,.nil,.nil,.nil,h=>by cases h;exact rfl
 |_,_,_,_,_,_,k,.nil,.cons _ _,.nil,.cons _ _,h=>by cases h;exact rfl
 |_,_,_,_,_,_,k,.cons _ _,.nil,.cons _ _,.nil,h=>by cases h;exact rfl
 |_,_,_,_,_,_,k,.cons (d:=d) r1 t1,.cons (d:=e) r2 t2,.cons q1 p1,.cons q2 p2,h=>by
  unfold lexF at h
  cases hq:eqF n d e with
  |none=>rw[hq]at h;cases h
  |some b=>
   rw[hq]at h
   refine⟨b,(eq_at I n j r1 r2 q1 q2 hq).1,?_⟩
   cases b with
   |true=>exact .inl ⟨rfl,lex_at I n j i t1 t2 p1 p2 h⟩
   |false=>exact .inr ⟨rfl,i r1 r2 q1 q2 h⟩
theorem lt_at (I:Inv X pins σ H s):∀(n:Nat){A:Around}{x y:V}{v u:Value}{d e:D}{k:Bool},A.units+n<cLine->Rep X.K H x d->Rep X.K H y e->RelV x v->RelV y u->ltF n d e=some k->LtAt A s v u k
 |0,A,x,y,v,u,d,e,k,hu,r1,r2,q1,q2,h=>by simp[ltF]at h
 |n+1,A,x,y,v,u,d,e,k,hu,r1,r2,q1,q2,h=>by
  have Y:A.units<cLine:=by omega
  have M:A.in1.units+n<cLine:=by show A.units+1+n<cLine;omega
  cases r1 with
  |int i=>
   cases r2 with
   |int j=>
    obtain⟨t,rfl⟩:=q1
    obtain⟨t',rfl⟩:=q2
    cases h
    exact fun prog w E Q hQ=>HT.rcLt_int A s i t j t' prog w E Q hQ
   |_=>cases h
  |lst sq rs=>
   cases r2 with
   |lst O S=>
    cases q1;cases q2
    obtain⟨its,vr,⟨⟨cls,dd,data,sl⟩,m,Z,hc,a2,hd⟩,_⟩:=I.list sq
    obtain⟨q,N,⟨⟨a0,U,data2,R⟩,m2,z,J,a1,G⟩,_⟩:=I.list O
    simp only at hc hd J G
    subst hc hd J G
    have L:=lex_at I n M (fun a b c d e=>lt_at I n M a b c d e) rs S vr N (show lexF (eqF n) (ltF n) _ _=some k from h)
    intro prog w E Q hQ
    exact richCompare_meets_room (op:=.Lt) ⟨_,Z,rfl⟩ ⟨_,z,rfl⟩ PySem.F.slot_list_lt PySem.F.entry_list_lt (PySem.F.args_list_lt_2 _ _) (lst_lt _ _ its.toArray q.toArray m m2 dd U sl R k)
     ⟨Z,z,by simpa using L,show Value.bool k≠Value.notImplemented/\Q (.bool k) s from⟨(fun x=>nomatch x),hQ⟩⟩ Y
   |_=>cases h
  |tup sq rs=>
   cases r2 with
   |tup O S=>
    cases q1;cases q2
    obtain⟨its,vr,⟨⟨cls,dd,data,sl⟩,Z,hc,m,hd⟩,_⟩:=I.tuple sq
    obtain⟨q,N,⟨⟨a0,U,data2,R⟩,z,J,m2,G⟩,_⟩:=I.tuple O
    simp only at hc hd J G
    subst hc hd J G
    have L:=lex_at I n M (fun a b c d e=>lt_at I n M a b c d e) rs S vr N (show lexF (eqF n) (ltF n) _ _=some k from h)
    intro prog w E Q hQ
    exact richCompare_meets_room (op:=.Lt) ⟨_,Z,rfl⟩ ⟨_,z,rfl⟩ PySem.F.slot_tuple_lt PySem.F.entry_tuple_lt (PySem.F.args_tuple_lt_2 _ _) (tup_lt _ _ its.toArray q.toArray m m2 dd U sl R k)
     ⟨Z,z,by simpa using L,show Value.bool k≠Value.notImplemented/\Q (.bool k) s from⟨(fun x=>nomatch x),hQ⟩⟩ Y
   |_=>cases h
  |_=>cases r2 <;> cases h
end
end L2
namespace L2
open PySem PySem.Spec PyProof.Rows
noncomputable def KeyAt (X:Cx)(kv:Value)(mk:D->Option D):Prop:=∀(pins:List (Addr×Obj))(σ:St)(H F:Hp)(s:Shared)(x:V)(u:Value)(d kd:D),Inv X pins σ H s->Same F H->Rep X.K F x d->RelV x u->mk d=some kd->
 wpAny (model X.prog X.w) X.A.in1 (call kv [u]) (fun w s'=>∃ y F' H',Inv X pins σ H' s'/\RelV y w/\Ext F H F' H'/\Rep X.K F' y kd) (fun _ _=>False) s
noncomputable def shOf:Option Rt->Option D
 |some (.sh d)=>some d
 |some (.fr es)=>some (.lst es)
 |_=>none
theorem N9 {X:Cx}{k:Nat}{f:Addr}{fd:FuncData}{p:Str}{m:MF}(F:FnOk X.prog X.w X.K X.mg X.base CX0 k f fd [p] (spR X.K 1 m))(S:Room k X.A.in1)(U:Binds X.K fd [p] []):KeyAt X (.ref f) (fun d=>shOf (m [d])):=by
 intro pins σ H J s x u d M I L r rx hm
 have hm:shOf (m [d])=some M:=hm
 have sp:spR X.K 1 m [x] H (fun v H'=>∃ F',Ext J H F' H'/\Rep X.K F' v M) E0:=by
  cases h:m [d]with
  |none=>rw[h]at hm;cases hm
  |some t=>
   rw[h]at hm
   cases t with
   |sh g=>cases hm;exact⟨rfl,J,[d],_,L,.cons r .nil,h,fun v F' H' j G=>⟨F',j,G⟩⟩
   |fr gs=>cases hm;exact⟨rfl,J,[d],_,L,.cons r .nil,h,fun q xs F' H' j hp N Y R=>⟨upd F' q (.lst xs),j.freeze N hp Y,.lst (SqL.of x8) (R.mono ((Same.refl F').put N))⟩⟩
   |pr _ _=>cases hm
 have i:=I.env0
 have env:Env0 X.prog X.w X.K X.mg X.base X.A.in1 X.stack s H:=⟨i.frames,i.mod,i.bs,i.bsz,i.funs,i.frf,i.hok,i.bare⟩
 refine wpAny_call (codeAny_mono (F.run X.A.in1 X.stack s H ⟨[u],[]⟩ [u] [x] _ E0 S env (U s [u] I.kIn rfl) (.cons rx .nil) sp) fun r s' z=>?_)
 cases r with
 |error e=>exact z.elim
 |ok fl=>
  cases fl with
  |ret v=>
   obtain⟨y,H',Z,O,F',j,G⟩:=I.after z
   exact⟨y,F',H',Z,O,j,G⟩
  |next=>exact z.elim
  |brk=>exact z.elim
  |cont=>exact z.elim
noncomputable def minF (mk:D->Option D):List D->D->D->Option D
 |[],b,_=>some b
 |d::ds,b,kb=>match mk d with
  |some kd=>(match ltF 8 kd kb with |some true=>minF mk ds d kd|some false=>minF mk ds b kb|none=>none)
  |none=>none
section
variable {X:Cx}{pins:List (Addr×Obj)}{σ:St}
theorem FpOk.now {H H':Hp}{b:Addr}(h:FpOk X pins H b)(hn:H' b=none):FpOk X pins H' b:=⟨hn,h.2⟩
theorem Inv.pin2 {H:Hp}{s:Shared}{a b:Addr}{i ob:Obj}(I:Inv X pins σ H s)(ha:FpOk X pins H a)(j:FpOk X pins H b)(z:s.heap.get? a=some i)(q:s.heap.get? b=some ob)(J:∀ v,i.data≠ .cell v)(G:∀ v,ob.data≠ .cell v):Inv X (pins++[(a,i),(b,ob)]) σ H s:=
 I.pins_of fun p hp=>by
  rcases List.mem_append.mp hp with hp|hp
  .exact I.pin p (List.mem_append_right _ hp)
  .simp only[List.mem_cons,List.not_mem_nil,or_false]at hp
   rcases hp with rfl|rfl
   .exact⟨z,ha.1,ha.2.1,ha.2.2.1,J⟩
   .exact⟨q,j.1,j.2.1,j.2.2.1,G⟩
set_option maxHeartbeats 8000000 in
theorem min_loop {q:Addr}{mk:D->Option D}(hk:KeyAt X (.ref q) mk)(hc:X.calm=true)(hu:X.A.units+64<cLine){l I S:Addr}{xs:List V}{ds:List D}{kw:List (Str×Value)}{dm:D}(Y:I≠S)(ad:l≠I)(ac:l≠S):
  ∀(r j:Nat)(H F H0 F0:Hp)(s:Shared)(xb yb:V)(M N:Value)(db G:D)(c:Nat)(R:Result->Shared->Prop),
   ds.length-(j+1)=r->j+1<=ds.length->Inv X pins σ H s->Ext F0 H0 F H->SqL X.K H l xs->Reps X.K F xs ds->s.heap.IsListIter I l (j+1)->s.heap.get? S=some (seqObj "list" #[M,N] c)->FpOk X pins H I->FpOk X pins H S->
   RelV xb M->Rep X.K F xb db->RelV yb N->Rep X.K F yb G->minF mk (ds.drop (j+1)) db G=some dm->
   (∀ x v F' H' s',Inv X pins σ H' s'->RelV x v->Ext F0 H0 F' H'->Rep X.K F' x dm->R (.ok (.ret v)) s')->
   codeAny (model X.prog X.w) X.A (.builtin "min.loop" ⟨[.ref I,.ref q,.ref S],kw⟩) R s:=by
 have L:(toString "min"++toString ".loop":String)="min.loop":=by decide
 intro r
 induction r with
 |zero=>
  intro j H F H0 F0 s xb yb M N db G c R hr hj I' ext sq rs U hS fI fS rb pb ry py hm hR
  have a8:j+1=ds.length:=by omega
  obtain⟨its,vr,pl,_⟩:=I'.list sq
  have zl:its.length=ds.length:=by rw[<-vr.length,rs.length]
  rw[a8,List.drop_length]at hm
  have hm:some db=some dm:=hm
  cases hm
  refine codeAny_builtin PySem.F.entry_min_loop ?_
  rw[Around.under_plainId PySem.F.plain_min_loop _]
  show wpAny _ X.A.in1 (seqItems? (.ref S) >>= _) _ _ _
  refine wpAny_bind (wpAny_seqItems hS rfl ?_)
  show wpAny _ X.A.in1 (tryCatch (pyNext (.ref I)) _ >>= _) _ _ _
  refine wpAny_bind (wpAny_tryCatch (wpAny_pyNext_list_end (I'.ok.hd hc) U pl.isList (by simp;omega) fun h' a3=>?_))
  have ab:h'.get? S=some (seqObj "list" #[M,N] c):=a3 S _ (Ne.symm Y) hS
  have s1:=Heap.SameBut.update h' S (Obj.mapSeq fun _=>(#[]:Array Value))
  show wpAny _ X.A.in1 (updateSeq S (fun _=>#[]) >>= _) _ _ _
  refine wpAny_bind ?_
  refine wpAny_updateSeq ab rfl (wpAny_bind (wpAny_letGo (wpAny_pure ?_)))
  have I9:Inv X pins σ H { s with heap:=h'.update S (Obj.mapSeq fun _=>(#[]:Array Value)),toks:=s.toks }:=I'.turnedL (fp:=[I,S]) (t':=s.toks) (fun b o i e=>by
   simp only[List.mem_cons,List.not_mem_nil,or_false,not_or]at i
   exact(s1.2 b i.2).trans (a3 b o i.1 e)) (fun b i=>by
   simp only[List.mem_cons,List.not_mem_nil,or_false]at i
   rcases i with rfl|rfl <;> assumption)
  exact hR xb M F H _ I9 rb ext pb
 |succ r ih=>
  intro j H F H0 F0 s xb yb M N db G c R hr hj I' ext sq rs U hS fI fS rb pb ry py hm hR
  have O:j+1<ds.length:=by omega
  obtain⟨its,vr,pl,_⟩:=I'.list sq
  have zl:its.length=ds.length:=by rw[<-vr.length,rs.length]
  obtain⟨d,hd⟩:∃ d,ds[j+1]? =some d:=⟨_,List.getElem?_eq_getElem O⟩
  obtain⟨x,hx,px⟩:=rs.get hd
  obtain⟨v,hv,rx⟩:=vr.get hx
  rw[j7 hd]at hm
  unfold minF at hm
  cases hkd:mk d with
  |none=>rw[hkd]at hm;cases hm
  |some kd=>
   rw[hkd]at hm
   dsimp only at hm
   refine codeAny_builtin PySem.F.entry_min_loop ?_
   rw[Around.under_plainId PySem.F.plain_min_loop _]
   show wpAny _ X.A.in1 (seqItems? (.ref S) >>= _) _ _ _
   refine wpAny_bind (wpAny_seqItems hS rfl ?_)
   show wpAny _ X.A.in1 (tryCatch (pyNext (.ref I)) _ >>= _) _ _ _
   refine wpAny_bind (wpAny_tryCatch (wpAny_pyNext_list_item U pl.isList (by simpa using hv) fun h1 a5 s1=>?_))
   have I1:Inv X pins σ H { s with heap:=h1,toks:=s.toks }:=I'.turnedL (fp:=[I]) (fun b o i e=>s1.extBut b o (by simpa using i) e) (fun b i=>by rw[List.mem_singleton.mp i];exact fI)
   have aa:h1.get? S=some (seqObj "list" #[M,N] c):=s1.extBut _ _ (Ne.symm Y) hS
   obtain⟨oI,eI,cI,dI⟩:=id a5
   have Ip:=I1.pin2 fI fS eI aa (fun v z=>by rw[dI]at z;cases z) (fun v z=>by cases z)
   show wpAny _ X.A.in1 (tryCatch (holding [v] (call (.ref q) [v])) _ >>= _) _ _ _
   refine wpAny_bind (wpAny_tryCatch (wpAny_holding (wpAny_mono (hk (pins++[(I,oI),(S,seqObj "list" #[M,N] c)]) σ H F _ x v d kd Ip ext.fh px rx hkd) (fun w s2 hw=>?_) fun _ _ z=>z.elim)))
   obtain⟨y,F2,H2,I2,a1,J,a2⟩:=hw
   have pI:=I2.pin (I,oI) (by simp)
   have pS:=I2.pin (S,seqObj "list" #[M,N] c) (by simp)
   have a0:Inv X pins σ H2 s2:=I2.unpinned
   have a7:FpOk X pins H2 I:=fI.now pI.2.1
   have Z:FpOk X pins H2 S:=fS.now pS.2.1
   have a4:s2.heap.IsListIter I l (j+1+1):=⟨oI,pI.1,cI,dI⟩
   cases hlt8:ltF 8 kd G with
   |none=>rw[hlt8]at hm;cases hm
   |some bt=>
    rw[hlt8]at hm
    have a6:=lt_at a0 8 (A:=X.A.in1) (by show X.A.units+1+8<cLine;omega) (a2.mono J.fh) ((py.mono J.ff).mono J.fh) a1 ry hlt8
    show wpAny _ X.A.in1 (tryCatch (holding [v,w] (richCompare .Lt w N >>= _)) _ >>= _) _ _ _
    refine wpAny_bind (wpAny_tryCatch (wpAny_holding (wpAny_bind (a6 X.prog X.w _ _ ?_))))
    refine wpAny_bind (wpAny_holding (wpAny_truthy_bool ?_))
    refine wpAny_bind (wpAny_letGo (wpAny_pure ?_))
    cases bt with
    |true=>
     have s3:=Heap.SameBut.update s2.heap S (Obj.mapSeq fun _=>#[v,w])
     obtain⟨c2,a9⟩:∃ c2,(s2.heap.update S (Obj.mapSeq fun _=>#[v,w])).get? S=some (seqObj "list" #[v,w] c2):=⟨_,get?_update_seq pS.1 fun _=>#[v,w]⟩
     simp only[if_true]
     refine wpAny_bind ?_
     refine wpAny_updateSeq pS.1 rfl (wpAny_bind (wpAny_letGo ?_))
     rw[L]
     have I3:Inv X pins σ H2 { s2 with heap:=s2.heap.update S (Obj.mapSeq fun _=>#[v,w]),toks:=s2.toks }:=a0.turnedL (fp:=[S]) (fun b o i e=>(s3.2 b (by simpa using i)).trans e) (fun b i=>by rw[List.mem_singleton.mp i];exact Z)
     refine wpAny_pure ⟨plainId_quiet PySem.F.plain_min_loop _,ih (j+1) H2 F2 H0 F0 _ x y v w d kd c2 R (by omega) O I3 (ext.trans J) (J.hh.seq sq) (rs.mono J.ff) ⟨oI,(s3.2 I Y).trans pI.1,cI,dI⟩ a9 a7 Z rx (px.mono J.ff) a1 a2 hm hR⟩
    |false=>
     simp only[Bool.false_eq_true,if_false]
     refine wpAny_bind (wpAny_letGo ?_)
     rw[L]
     refine wpAny_pure ⟨plainId_quiet PySem.F.plain_min_loop _,ih (j+1) H2 F2 H0 F0 _ xb yb M N db G c R (by omega) O a0 (ext.trans J) (J.hh.seq sq) (rs.mono J.ff) a4 pS.1 a7 Z rb (pb.mono J.ff) ry (py.mono J.ff) hm hR⟩
end
end L2
namespace L2
open PySem PySem.Spec PyProof.Rows
theorem args_min_kd (a v u:Value):argsOk "min" ⟨[a],[(Str.ofString "key",v),(Str.ofString "default",u)]⟩:=by unfold argsOk;kernel_rfl
noncomputable def minD (mk:D->Option D)(ds:List D)(d0:D):Option D:=match ds with
 |[]=>some d0
 |d::ds=>(match mk d with |some kd=>minF mk ds d kd|none=>none)
section
variable {X:Cx}{pins:List (Addr×Obj)}{σ:St}
set_option maxHeartbeats 8000000 in
theorem min_top {q:Addr}{mk:D->Option D}(hk:KeyAt X (.ref q) mk)(hc:X.calm=true)(hu:X.A.units+64<cLine){l:Addr}{xs:List V}{ds:List D}{dm d0:D}{H F:Hp}{s:Shared}{x0:V}{N:Value}{E:Value->Shared->Prop}{Q:Value->Shared->Prop}
  (I:Inv X pins σ H s) (sf:Same F H) (sq:SqL X.K H l xs) (rs:Reps X.K F xs ds) (r0:RelV x0 N) (p0:Rep X.K F x0 d0) (hm:minD mk ds d0=some dm)
  (hQ:∀ x v F' H' s',Inv X pins σ H' s'->RelV x v->Ext F H F' H'->Rep X.K F' x dm->Q v s'):
  wpAny (model X.prog X.w) X.A (call (.builtin "min") [.ref l] [(Str.ofString "key",.ref q),(Str.ofString "default",N)]) Q E s:=by
 have G:(toString "min"++toString ".loop":String)="min.loop":=by decide
 obtain⟨its,vr,pl,_⟩:=I.list sq
 have Y:=pl.isList
 obtain⟨ol,a5,_⟩:=id Y
 have Z:l<s.heap.objs.size:=Heap.lt_size a5
 refine kmk_tree PySem.F.kind_min PySem.F.plain_min PySem.F.entry_min (args_min_kd _ _ _) ?_
 show wpAny _ X.A.in1 (Builtin.Builtins.bindParams "min" ["key","default"] 0 ⟨[],[(Str.ofString "key",.ref q),(Str.ofString "default",N)]⟩ >>= _) _ _ s
 refine wpAny_bind (wpAny_of_eq (show Builtin.Builtins.bindParams "min" ["key","default"] 0 ⟨[],[(Str.ofString "key",.ref q),(Str.ofString "default",N)]⟩=pure [some (.ref q),some N]from rfl) ?_)
 refine wpAny_bind (wpAny_pure ?_)
 refine wpAny_bind (wpAny_pyIter_list Y ?_)
 refine wpAny_bind (wpAny_newList ?_ (Nat.zero_le _))
 rw[G]
 refine wpAny_pure ⟨plainId_quiet PySem.F.plain_min_loop _,?_⟩
 generalize L:({ cls:=.type "list_iterator",data:=.fields #[.ref l,.int 0 0] }:Obj)=oI0
 have hS:(s.heap.push oI0).objs.size=s.heap.objs.size+1:=size_push' ..
 have a7:l≠s.heap.objs.size:=Nat.ne_of_lt Z
 have a6:l≠(s.heap.push oI0).objs.size:=by rw[hS];exact Nat.ne_of_lt (Nat.lt_succ_of_lt Z)
 have M:s.heap.objs.size≠(s.heap.push oI0).objs.size:=by rw[hS];exact Nat.ne_of_lt (Nat.lt_succ_self _)
 have gI:((s.heap.push oI0).push (seqObj "list" #[] 0)).get? s.heap.objs.size=some oI0:=Heap.get?_push_of_some _ (Heap.get?_push_size _ (by rw[<-L];rfl))
 have gS:((s.heap.push oI0).push (seqObj "list" #[] 0)).get? (s.heap.push oI0).objs.size=some (seqObj "list" #[] 0):=Heap.get?_push_size _ rfl
 have fI:FpOk X pins H s.heap.objs.size:=I.fpOk (Nat.le_refl _) (I.hok.fresh (Nat.le_refl _))
 have fS:FpOk X pins H (s.heap.push oI0).objs.size:=I.fpOk (by rw[hS];exact Nat.le_succ _) (I.hok.fresh (by rw[hS];exact Nat.le_succ _))
 have I0:Inv X pins σ H { s with heap:=(s.heap.push oI0).push (seqObj "list" #[] 0),toks:=s.toks }:=I.turnedL (fp:=[]) (fun b o _ e=>Heap.get?_push_of_some _ (Heap.get?_push_of_some _ e)) (fun b j=>by cases j)
 generalize (s.heap.push oI0).objs.size=S at*
 generalize hI:s.heap.objs.size=J at*
 generalize (s.heap.push oI0).push (seqObj "list" #[] 0)=h0 at*
 have a1:h0.IsListIter J l 0:=⟨_,gI,by rw[<-L],by rw[<-L];rfl⟩
 have zl:its.length=ds.length:=by rw[<-vr.length,rs.length]
 obtain⟨its',R,U,_⟩:=I0.list sq
 have O:its'.length=ds.length:=by rw[<-R.length,rs.length]
 refine codeAny_builtin PySem.F.entry_min_loop ?_
 rw[Around.under_plainId PySem.F.plain_min_loop _]
 show wpAny _ X.A.in1 (seqItems? (.ref S) >>= _) _ _ _
 refine wpAny_bind (wpAny_seqItems gS rfl ?_)
 show wpAny _ X.A.in1 (tryCatch (pyNext (.ref J)) _ >>= _) _ _ _
 cases ds with
 |nil=>
  have hm:some d0=some dm:=hm
  cases hm
  refine wpAny_bind (wpAny_tryCatch (wpAny_pyNext_list_end (I.ok.hd hc) a1 U.isList (by simp at O ⊢;simp[O]) fun h' a8=>?_))
  refine wpAny_bind (wpAny_rule (wpAny_pure ?_))
  have I9:=I0.turnedL (h':=h') (fp:=[J]) (t':=s.toks) (fun b o j e=>a8 b o (by simpa using j) e) (fun b j=>by rw[List.mem_singleton.mp j];exact fI)
  exact hQ x0 N F H _ I9 r0 (Ext.refl sf) p0
 |cons d ds=>
  obtain⟨x,hx,px⟩:=rs.get (i:=0) (d:=d) rfl
  obtain⟨v,hv,rx⟩:=R.get hx
  unfold minD at hm
  dsimp only at hm
  cases hkd:mk d with
  |none=>rw[hkd]at hm;cases hm
  |some kd=>
   rw[hkd]at hm
   dsimp only at hm
   refine wpAny_bind (wpAny_tryCatch (wpAny_pyNext_list_item a1 U.isList (by simpa using hv) fun h1 a0 s1=>?_))
   have I1:=I0.turnedL (h':=h1) (t':=s.toks) (fp:=[J]) (fun b o j e=>s1.extBut b o (by simpa using j) e) (fun b j=>by rw[List.mem_singleton.mp j];exact fI)
   have aa:h1.get? S=some (seqObj "list" #[] 0):=s1.extBut _ _ (Ne.symm M) gS
   obtain⟨oI,eI,cI,dI⟩:=id a0
   have Ip:=I1.pin2 fI fS eI aa (fun v z=>by rw[dI]at z;cases z) (fun v z=>by cases z)
   show wpAny _ X.A.in1 (tryCatch (holding [v] (call (.ref q) [v])) _ >>= _) _ _ _
   refine wpAny_bind (wpAny_tryCatch (wpAny_holding (wpAny_mono (hk (pins++[(J,oI),(S,seqObj "list" #[] 0)]) σ H F _ x v d kd Ip sf px rx hkd) (fun w s2 hw=>?_) fun _ _ z=>z.elim)))
   obtain⟨y,F2,H2,I2,a3,x2,a4⟩:=hw
   have pI:=I2.pin (J,oI) (by simp)
   have pS:=I2.pin (S,seqObj "list" #[] 0) (by simp)
   have ac:Inv X pins σ H2 s2:=I2.unpinned
   have ab:FpOk X pins H2 J:=fI.now pI.2.1
   have a2:FpOk X pins H2 S:=fS.now pS.2.1
   have s3:=Heap.SameBut.update s2.heap S (Obj.mapSeq fun _=>#[v,w])
   obtain⟨c2,a9⟩:∃ c2,(s2.heap.update S (Obj.mapSeq fun _=>#[v,w])).get? S=some (seqObj "list" #[v,w] c2):=⟨_,get?_update_seq pS.1 fun _=>#[v,w]⟩
   show wpAny _ X.A.in1 (updateSeq S (fun _=>#[v,w]) >>= _) _ _ _
   refine wpAny_bind (wpAny_updateSeq pS.1 rfl ?_)
   rw[G]
   have I3:Inv X pins σ H2 { s2 with heap:=s2.heap.update S (Obj.mapSeq fun _=>#[v,w]),toks:=s2.toks }:=ac.turnedL (fp:=[S]) (fun b o j e=>(s3.2 b (by simpa using j)).trans e) (fun b j=>by rw[List.mem_singleton.mp j];exact a2)
   refine wpAny_pure ⟨plainId_quiet PySem.F.plain_min_loop _,min_loop hk hc hu (ds:=d::ds) (dm:=dm) M a7 a6 _ 0 H2 F2 H F _ x y v w d kd c2 _ rfl (by simp) I3 x2 (x2.hh.seq sq) (rs.mono x2.ff) ⟨oI,(s3.2 J M).trans pI.1,cI,dI⟩ a9 ab a2 rx (px.mono x2.ff) a3 a4 hm fun x v F' H' s' a b c d=>hQ x v F' H' s' a b c d⟩
@[irreducible] noncomputable def mminK (mk:D->Option D)(m:ML)(md:ME):ME:=fun ρ=>(m ρ).bind fun ds=>(md ρ).bind fun d0=>minD mk ds d0
theorem mminK_some {mk:D->Option D}{m:ML}{i:ME}{ρ:Ro}{g:D}(h:mminK mk m i ρ=some g):∃ ds d0,m ρ=some ds/\i ρ=some d0/\minD mk ds d0=some g:=by
 unfold mminK at h
 cases h1:m ρ with
 |none=>rw[h1]at h;cases h
 |some d=>
  cases h2:i ρ with
  |none=>rw[h1,h2]at h;cases h
  |some e=>rw[h1,h2]at h;exact⟨d,e,rfl,rfl,h⟩
theorem mminK_ev {mk:D->Option D}{m:ML}{i:ME}{ρ:Ro}{ds:List D}{d0:D}(h1:m ρ=some ds)(h2:i ρ=some d0):mminK mk m i ρ=minD mk ds d0:=by
 unfold mminK
 rw[h1,h2];rfl
theorem pd_minK {q:Addr}{mk:D->Option D}{x:Str}{p Y kp z pos:Pos}{e ed:Expr}{m:ML}{Z:ME}(hk:KeyAt X (.ref q) mk)(hc:X.calm=true)(hu:X.A.units+64<cLine)(hg:Gl X "min")(hm:X.mg "min"=none)(O:Gl X x)(N:X.mg x=some (.ref q))(ha:PB X e m)(hd:PD X ed Z)
  (R:(x==("__debug__":Str))=false:=by decide) (M:starEach (e::[]) X.env=(false,eval e X.env)::starEach [] X.env:=by rfl):
  PD X (.Call (.Name "min" p) [e] [⟨some "key",.Name x Y,kp⟩,⟨some "default",ed,z⟩] pos) (mminK mk m Z):=by
 intro pins s σ H Q I h
 obtain⟨F0,H0,F,ρ,g,U,em,q0⟩:=h
 obtain⟨ds,d0,h1,h2,h3⟩:=mminK_some em
 refine wpAny_Call_Name_kw (X2 I hg hm PyProof.Rows.boot_min ?_ (by decide) (by decide))
 have A:=b9 ha pa_nil M pos pins s σ H (fun vs H1=>∃ p xs F1,vs=[.ref p]/\Ext F H F1 H1/\SqL X.K H1 p xs/\Reps X.K F1 xs ds) I ⟨F0,H0,F,ρ,ds,U,h1,fun p xs F1 H1 G s1 r1=>⟨p,xs,F1,rfl,G,s1,r1⟩⟩
 refine callWith_kw (thn A fun us s1 i=>?_) (by rw[M];rfl) (by rw[M];rfl)
 obtain⟨vs,H1,I1,r1,p,xs,F1,S,G,sq,rs⟩:=i
 subst S
 obtain⟨u,rfl,ru⟩:=M7 r1
 cases ru
 have B:=L8 (nm:=some "key") (kpos:=kp) (pe_glob (v:=.ref q) (pos:=Y) O N rfl R) (L8 (nm:=some "default") (kpos:=z) hd pk_nil) pos pins s1 σ H1 (fun vs H2=>∃ y F2,vs=[.ref q,y]/\Ext F1 H1 F2 H2/\Rep X.K F2 y d0) I1 ⟨F0,H0,F1,ρ,d0,U.go G,h2,fun y F2 H2 j r2=>⟨y,F2,rfl,j,r2⟩⟩
 refine thn B fun us s2 i=>?_
 obtain⟨vs,H2,I2,r2,y,F2,S,j,p0⟩:=i
 subst S
 obtain⟨u1,u2,rfl,L,J⟩:=vals2 r2
 cases L
 exact min_top hk hc hu I2 j.fh (j.hh.seq sq) (rs.mono j.ff) J p0 h3 fun x v F' H' s' I' rx x3 px=>⟨x,H',I',rx,q0 x F' H' ((G.trans j).trans x3) px⟩
end
end L2
namespace L2
open PySem PySem.Spec PyProof.Rows
section
variable {prog:Program}{w:World}{A:Around}{E:Value->Shared->Prop}{s:Shared}
theorem N2:isSubtype (.type "range_iterator") (.type "reversed")=pure false:=by rw[isSubtype_type];kernel_rfl
noncomputable def ritObj (x left step:Int):Obj:={ cls:=.type "range_iterator",dict:=none,data:=.fields #[rawInt x,rawInt left,rawInt step],slots:=#[] }
theorem S7 {l:Addr}{j:Int}{t u v:Tok}{Q:Value->Shared->Prop}(i:IsRange s.heap l 0 j 1 t u v)(h1:-(2^62)<=j)(h2:j<2^62)
  (h:Q (.ref s.heap.objs.size) { s with heap:=s.heap.push (ritObj ((j.toNat:Int)-1) j.toNat (-1)) }):wpAny (model prog w) A (call (.builtin "range.__reversed__") [.ref l]) Q E s:=by
 have G:s.TypeIs (.ref l) "range":=⟨_,i,rfl⟩
 refine wpAny_call_entry F.slot_range_reversed G F.entry_range_reversed ?_ (F.args_range_reversed_1 _)
 have q:Builtin.Range.rangeSize 0 j 1=(j.toNat:Int):=by rw[rangeSize_one];split <;> omega
 unfold Builtin.«range.__reversed__»
 refine wpAny_bind (wpAny_of_eq (a:=Value.ref l) rfl ?_)
 unfold Builtin.Range.rangeFields
 refine wpAny_bind ?_
 refine wpAny_bind (wpAny_field i rfl (x:=.int 0 t) rfl ?_)
 refine wpAny_bind (wpAny_of_eq (a:=some (0:Int)) rfl ?_)
 refine wpAny_bind (wpAny_field i rfl (x:=.int j u) rfl ?_)
 refine wpAny_bind (wpAny_of_eq (a:=some j) rfl ?_)
 refine wpAny_bind (wpAny_field i rfl (x:=.int 1 v) rfl ?_)
 refine wpAny_bind (wpAny_of_eq (a:=some (1:Int)) rfl ?_)
 refine wpAny_pure ?_
 dsimp only
 rw[q]
 have z:(Builtin.Range.rangeFitsLong 0&&Builtin.Range.rangeFitsLong j&&Builtin.Range.rangeFitsLong 1&&Builtin.Range.rangeFitsLong (-1)&&Builtin.Range.rangeFitsLong (0-1)&&Builtin.Range.rangeFitsLong (j.toNat:Int))=true:=by
  simp only[Builtin.Range.rangeFitsLong,Bool.and_eq_true,decide_eq_true_eq]
  omega
 simp only[z,Bool.not_true,Bool.false_eq_true,if_false,if_true]
 have e:(0:Int)+((j.toNat:Int)-1)*1=(j.toNat:Int)-1:=by omega
 rw[e]
 exact wpAny_bind (wpAny_newObj_type (wpAny_pure ⟨_,rfl,h⟩))
theorem Q9 {l:Addr}{j:Int}{t u v:Tok}{Q₁:Value->Shared->Prop}(i:IsRange s.heap l 0 j 1 t u v)(h1:-(2^62)<=j)(h2:j<2^62)
  (h:Q₁ (.ref s.heap.objs.size) { s with heap:=s.heap.push (ritObj ((j.toNat:Int)-1) j.toNat (-1)) }):
  codeAny (model prog w) A (.call (.builtin "reversed.__new__") ⟨[.type "reversed",.ref l],[]⟩) (wants Q₁ E) s:=by
 have q:s.TypeIs (.ref l) "range":=⟨_,i,rfl⟩
 refine codeAny_of_tree ?_
 show wpAny _ A.in1 (do checkBuiltinCall "reversed.__new__" ⟨[.type "reversed",.ref l],[]⟩;again (.builtin "reversed.__new__" ⟨[.type "reversed",.ref l],[]⟩)) _ _ s
 refine wpAny_bind (wpAny_of_eq (F.newCall_reversed_1 _) (wpAny_pure ⟨plainId_quiet F.plain_reversed_new _,codeAny_builtin F.entry_reversed_new ?_⟩))
 rw[Around.under_plainId F.plain_reversed_new _]
 unfold Builtin.«reversed.__new__»
 refine wpAny_bind (wpAny_of_eq (newClass_reversed _) ?_)
 try dsimp only
 refine wpAny_bind (wpAny_of_eq (a:=()) (by first|rfl|kernel_rfl) ?_)
 refine wpAny_bind (wpAny_of_eq (a:=()) (by first|rfl|kernel_rfl) ?_)
 try dsimp only
 refine wpAny_bind (wpAny_specialOf q F.slot_range_reversed.lookup ?_)
 try dsimp only
 refine wpAny_bind (wpAny_of_eq (F.slot_range_reversed.bind _) ?_)
 try dsimp only
 first
 |rw[if_neg (show ¬ ((Value.builtin "range.__reversed__"==Value.none)=true)from Bool.false_ne_true)]
 | (show wpAny _ _ (if (Value.builtin "range.__reversed__"==Value.none)=true then _ else _) _ _ _;rw[if_neg (show ¬ ((Value.builtin "range.__reversed__"==Value.none)=true)from Bool.false_ne_true)])
 refine wpAny_bind (wpAny_rule ?_)
 refine wpAny_bind (m:=runValue (.call (.builtin "range.__reversed__") ⟨[.ref l],[]⟩)) (show wpAny _ _ (call (.builtin "range.__reversed__") [.ref l]) _ _ _ from S7 i h1 h2 ?_)
 first
 |exact wpAny_pure h
 |exact wpAny_bind (wpAny_pure (wpAny_pure h))
theorem S6 {l:Addr}{j:Int}{t u v:Tok}{Q:Value->Shared->Prop}(q:IsRange s.heap l 0 j 1 t u v)(h1:-(2^62)<=j)(h2:j<2^62)
  (h:Q (.ref s.heap.objs.size) { s with heap:=s.heap.push (ritObj ((j.toNat:Int)-1) j.toNat (-1)) }):wpAny (model prog w) A (call (.type "reversed") [.ref l]) Q E s:=by
 refine callType_other (U:="range_iterator") (Q₁:=fun obj i=>obj= .ref s.heap.objs.size/\i={ s with heap:=s.heap.push (ritObj ((j.toNat:Int)-1) j.toNat (-1)) }) (by decide +kernel) F.create_reversed ⟨_,_,F.mro_reversed⟩ F.made_reversed N2 (F.typeCall_reversed_1 _) (Q9 q h1 h2 ⟨rfl,rfl⟩) ?_
 rintro obj i ⟨rfl,rfl⟩
 exact⟨⟨_,Heap.get?_push_size _ rfl,rfl⟩,h⟩
end
noncomputable def Itdn (hi:Int)(n:Nat):It:=⟨fun i _=>i<n,fun i H x H'=>H'=H/\x= .int (hi-i),fun i _=>n<=i⟩
theorem turn_down {P:Program}{w:World}{K:PySem.W.Frag}{tg:Expr}(it:Addr)(lo:Int)(n:Nat):Turn P w K tg (Itdn lo n) [it] it (fun i h=>IsRangeIter h it (lo+(i:Nat)*(-1)) ((n:Int)-(i:Nat)) (-1)) where
 mem:=by simp
 obj:=fun i h st b j=>by
  have e:b=it:=by simpa using j
  subst e
  exact⟨_,st,fun v z=>by
   have Z:Data.fields _=Data.cell v:=z
   cases Z⟩
 keep:=fun i h h' st k=>k it (by simp) _ st
 item:=by
  intro X M hw N L i pins s σ H E I G st J
  subst M hw N
  obtain⟨Y,U,f2,S,R,O⟩:=G it (by simp)
  have W:=Walks.range (prog:=X.prog) (w:=X.w) (I.ok.hd L) it lo (-1) n
  refine W.item i s _ _ J st fun v h' tk hv q kk=>?_
  obtain⟨t,rfl⟩:=hv
  have I1:Inv X pins σ H { s with heap:=h',toks:=tk }:=I.turned (fun b o j e=>kk b o (by simpa using j) e) Y U S R O
  refine⟨_,rfl,go_of (s:={ s with heap:=h',toks:=tk }) (n:="range_iterator") q rfl rfl (by decide) ⟨.int (lo-i),H,I1,⟨t,?_⟩,⟨rfl,rfl⟩,q,fun b j=>(G b j).1⟩⟩
  rw[show lo+(i:Int)*(-1)=lo-i by omega]
 done:=by
  intro X M hw N L i pins s σ H E I G st J
  subst M hw N
  obtain⟨Y,U,f2,S,R,O⟩:=G it (by simp)
  exact wpAny_pyNext_range_end (I.ok.hd L) st (by have:n<=i:=J;omega) fun h' eb=>⟨rfl,I.turned (t':=s.toks) (fun b o j e=>eb b o j e) Y U S R O⟩
 self:=fun _ _ _ _ _ st h=>wpAny_pyIter_rangeiter st h
section
variable {X:Cx}
noncomputable def E3 (n:Nat):List D:=(List.range n).map fun(i:Nat)=>D.int ((n:Int)-1-(i:Int))
theorem O8 (n:Nat):(E3 n).length=n:=by unfold E3;simp
theorem itd_down {K:PySem.W.Frag}{F:Hp}{n:Nat}:ItD K F (Itdn ((n:Int)-1) n) (E3 n) where
 go:=fun i F1 H1 a b hi=>by rw[O8]at hi;exact hi
 yld:=fun i F1 H1 x H2 d a b e y=>by
  obtain⟨rfl,rfl⟩:=y
  unfold E3 at e
  rw[List.getElem?_map]at e
  have hi:i<n:=by
   rcases Nat.lt_or_ge i n with h|h
   .exact h
   .rw[List.getElem?_eq_none (by simpa using h)]at e;cases e
  rw[List.getElem?_range hi]at e
  cases e
  exact⟨F1,.refl b,.int _⟩
 stop:=fun F1 H1 a b=>by rw[O8];exact Nat.le_refl n
noncomputable def rngD:List D->Option (List D)
 |[.int j]=>if okR j=true then some (E3 j.toNat)else none
 |_=>none
theorem L9 {tg a:Expr}{m:ML}{p p2 pos i:Pos}(hg:Gl X "reversed")(hm:X.mg "reversed"=none)(S:Gl X "range")(O:X.mg "range"=none)(ha:PAs X [a] m)(he:starEach [a] X.env=(false,eval a X.env)::starEach [] X.env:=by rfl)
  (z:∀ pos,(backTo pos (starEach [] X.env)).any (·.1)=false:=by intro _;rfl)
  (U:starEach (Expr.Call (.Name "range" p2) [a] [] i::[]) X.env=(false,eval (Expr.Call (.Name "range" p2) [a] [] i) X.env)::starEach [] X.env:=by rfl):
  PId X tg (.Call (.Name "reversed" p) [.Call (.Name "range" p2) [a] [] i] [] pos) (p8 rngD m):=by
 intro pins s σ H R I h
 obtain⟨F0,H0,F,ρ,its,rl,e,q⟩:=h
 obtain⟨ds,h1,h2⟩:=c7 e
 have A:=b9 (pe_callTy call_rng1 S O boot_range ha (by decide) (by decide) he (z _)) pa_nil U pos pins s σ H (fun vs H1=>∃ p j F1 H2,vs=[.ref p]/\ds=[.int j]/\H2 p=none/\H1=upd H2 p (.rng 0 j)/\Ext F H F1 H2) I ⟨F0,H0,F,ρ,ds,rl,h1,fun vs F1 H1 L r1=>by
  unfold rngD at h2
  split at h2
  .rename_i j
   cases r1 with
   |cons r rr=>
    cases rr;cases r
    exact⟨j,rfl,fun p hp=>⟨p,j,F1,H1,rfl,rfl,hp,rfl,L⟩⟩
  .cases h2⟩
 refine Call_ (X2 I hg hm boot_reversed (PyProof.Rows.callWith_type1 (thn A fun us s1 G=>?_) U (z _)))
 obtain⟨vs,H1,N,r1,q1⟩:=G
 obtain⟨l,j,F1,H2,ev,ed,hn,eH,L⟩:=q1
 subst ev ed eH
 obtain⟨u,rfl,Z⟩:=M7 r1
 cases Z
 have h2:(if okR j=true then some (E3 j.toNat)else none)=some its:=h2
 split at h2
 case isFalse=>cases h2
 rename_i M
 cases h2
 unfold okR at M
 simp only[Bool.and_eq_true,decide_eq_true_eq]at M
 obtain⟨t,u,v,eo⟩:=N.hok l _ x8
 refine S6 (j:=j) eo M.1 M.2 ?_
 have J:IsRangeIter (s1.heap.push (ritObj ((j.toNat:Int)-1) j.toNat (-1))) s1.heap.objs.size ((j.toNat:Int)-1) j.toNat (-1):=Heap.get?_push_size _ rfl
 refine wpAny_pyIter_rangeiter J ?_
 have Y:Ext F H F1 (upd H2 l (.rng 0 j)):=L.trans (Ext.own L.fh hn)
 refine⟨s1.heap.objs.size,[s1.heap.objs.size],_,_,_,rfl,N.kept (t':=s1.toks) fun b o e=>Heap.get?_push_of_some _ e,turn_down _ ((j.toNat:Int)-1) j.toNat,?_,fun b hb=>?_,q _ F1 _ Y itd_down⟩
 .have e1:((j.toNat:Int)-1)+((0:Nat):Int)*(-1)=(j.toNat:Int)-1:=by simp
  have e2:((j.toNat:Nat):Int)-((0:Nat):Int)=j.toNat:=by simp
  show IsRangeIter _ _ (((j.toNat:Int)-1)+((0:Nat):Int)*(-1)) (((j.toNat:Nat):Int)-((0:Nat):Int)) (-1)
  rw[e1,e2]
  exact J
 .have e:b=s1.heap.objs.size:=by simpa using hb
  subst e
  exact N.fpOk (Nat.le_refl _) (N.hok.fresh (Nat.le_refl _))
end
end L2
namespace L2
open PySem PySem.Spec PyProof.Rows
section
variable {X:Cx}{a b:Expr}{pos:Pos}
end
end L2
namespace L2
open PySem PySem.Spec PyProof.Rows
section
variable {X:Cx}{e:Expr}{pos:Pos}{es:List Expr}{E:XK}{mf:MG}{st:Stmt}{na:MEm}
end
section
variable {X:Cx}{a b:Expr}{pos:Pos}
noncomputable def repOk (n:Nat)(k:Int):Bool:=decide (-(2^62)<=k)&&decide (k<2^62)&&decide (n*k.toNat<=sizeLine)
@[irreducible] noncomputable def mrep (x:ML)(y:ME):ML:=fun ρ=>(x ρ).bind fun ds=>match y ρ with
 |some (.int k)=>if repOk ds.length k=true then some (List.replicate k.toNat ds).flatten else none
 |_=>none
theorem mrep_some {x:ML}{y:ME}{ρ:Ro}{i:List D}(h:mrep x y ρ=some i):∃ ds k,x ρ=some ds/\y ρ=some (.int k)/\repOk ds.length k=true/\i=(List.replicate k.toNat ds).flatten:=by
 unfold mrep at h
 cases h1:x ρ with
 |none=>rw[h1]at h;cases h
 |some ds=>
  rw[h1,Option.bind_some]at h
  split at h
  .rename_i k h2
   split at h
   .rename_i hk
    exact⟨ds,k,rfl,h2,hk,(Option.some.inj h).symm⟩
   .cases h
  .cases h
theorem mrep_ev {x:ML}{y:ME}{ρ:Ro}{ds:List D}{k:Int}(h1:x ρ=some ds)(h2:y ρ=some (.int k))(i:repOk ds.length k=true):mrep x y ρ=some (List.replicate k.toNat ds).flatten:=by
 unfold mrep
 rw[h1,Option.bind_some,h2]
 simp only[i,if_true]
theorem reps_flat {K:PySem.W.Frag}{F:Hp}{xs:List V}{ds:List D}(r:Reps K F xs ds):∀ k:Nat,Reps K F (List.replicate k xs).flatten (List.replicate k ds).flatten
 |0=>.nil
 |k+1=>by
  rw[List.replicate_succ,List.replicate_succ,List.flatten_cons,List.flatten_cons]
  exact r.append (reps_flat r k)
theorem R7 {x:ML}{y:ME}(ha:PF X a x)(L:PD X b y):PF X (.BinOp a .Mult b pos) (mrep x y):=(pe_op op_rep ha L).imp fun σ H Q j=>by
 obtain⟨F0,H0,F,ρ,g,J,e,q⟩:=j
 obtain⟨ds,k,h1,h2,z,rfl⟩:=mrep_some e
 unfold repOk at z
 simp only[Bool.and_eq_true,decide_eq_true_eq]at z
 refine⟨F0,H0,F,ρ,ds,J,h1,fun p xs F1 H1 I N O M r1=>⟨F0,H0,F1,ρ,.int k,J.go I,h2,fun v F2 H2 i r2=>?_⟩⟩
 cases r2
 refine⟨p,k,xs,rfl,rfl,i.hh _ _ M,by omega,by omega,by rw[r1.length];exact z.2,fun w hw=>?_⟩
 have G:=I.trans i
 exact q w _ F2 _ (G.trans (Ext.own i.fh hw)) (G.hh.free hw) (i.fh.free hw) x8 (reps_flat (r1.mono i.ff) k.toNat)
end
end L2
namespace L2
open PySem PySem.Spec PyProof.Rows
noncomputable def minN (mk:D->Option D)(ds:List D):Option D:=match ds with
 |[]=>none
 |d::ds=>(match mk d with |some kd=>minF mk ds d kd|none=>none)
section
variable {X:Cx}{pins:List (Addr×Obj)}{σ:St}
end
end L2
namespace L2
open PySem PySem.Spec PyProof.Rows
theorem args_max_kd (a v u:Value):argsOk "max" ⟨[a],[(Str.ofString "key",v),(Str.ofString "default",u)]⟩:=by unfold argsOk;kernel_rfl
noncomputable def O5:D->Option D
 | .lst ds=>some (.int ds.length)
 |_=>none
noncomputable def gtI:D->D->Option Bool
 | .int i,.int j=>some (decide (i>j))
 |_,_=>none
noncomputable def maxF:List D->D->D->Option D
 |[],b,_=>some b
 |d::ds,b,kb=>match O5 d with
  |some kd=>(match gtI kd kb with |some true=>maxF ds d kd|some false=>maxF ds b kb|none=>none)
  |none=>none
noncomputable def maxD (ds:List D)(d0:D):Option D:=match ds with
 |[]=>some d0
 |d::ds=>(match O5 d with |some kd=>maxF ds d kd|none=>none)
theorem gt_at {K:PySem.W.Frag}{F F':Hp}{A:Around}{s:Shared}{x y:V}{v u:Value}{d e:D}{k:Bool}(r1:Rep K F x d)(r2:Rep K F' y e)(z:RelV x v)(q:RelV y u)(h:gtI d e=some k)(prog:Program)(w:World)(E:Value->Shared->Prop)(Q:Value->Shared->Prop)(G:Q (.bool k) s):wpAny (model prog w) A (richCompare .Gt v u) Q E s:=by
 cases r1 <;> cases r2 <;> first| (cases h;done)|skip
 rename_i i j
 cases h
 obtain⟨t,rfl⟩:=z
 obtain⟨t',rfl⟩:=q
 exact CmpOf.ints_gt (prog:=prog) (w:=w) (A:=A) (P:=fun n v=>∃ t,v= .int (if n=1 then i else j) t) (fun n=>if n=1 then i else j) (fun i v h=>h) 1 0 _ _ _ _ _ ⟨t,rfl⟩ ⟨t',rfl⟩ G
section
variable {X:Cx}{pins:List (Addr×Obj)}{σ:St}
theorem key_len (pins:List (Addr×Obj))(σ:St)(H F:Hp)(s:Shared)(x:V)(u:Value)(d q:D)(I:Inv X pins σ H s)(j:Same F H)(r:Rep X.K F x d)(rx:RelV x u)(hm:O5 d=some q):
  wpAny (model X.prog X.w) X.A.in1 (call (.builtin "len") [u]) (fun w s'=>∃ y F' H',Inv X pins σ H' s'/\RelV y w/\Ext F H F' H'/\Rep X.K F' y q) (fun _ _=>False) s:=by
 cases r <;> first| (cases hm;done)|skip
 rename_i a xs ds z G
 cases hm
 cases rx
 have hn:=line63
 obtain⟨its,J,L,M⟩:=I.list (j.seq z)
 have i:=J.length
 refine Calls.call_len_list L.isList (by simp only[List.size_toArray] <;> omega) ⟨.int ds.length,F,H,I.tok _,⟨s.toks+1,by rw[List.size_toArray,<-i,G.length]⟩,.refl j,.int _⟩
set_option maxHeartbeats 8000000 in
theorem max_loop (hc:X.calm=true)(hu:X.A.units+64<cLine){l I S:Addr}{xs:List V}{ds:List D}{kw:List (Str×Value)}{dm:D}(U:I≠S)(ad:l≠I)(ac:l≠S):
  ∀(r j:Nat)(H F H0 F0:Hp)(s:Shared)(Z yb:V)(J L:Value)(db q:D)(c:Nat)(R:Result->Shared->Prop),
   ds.length-(j+1)=r->j+1<=ds.length->Inv X pins σ H s->Ext F0 H0 F H->SqL X.K H l xs->Reps X.K F xs ds->s.heap.IsListIter I l (j+1)->s.heap.get? S=some (seqObj "list" #[J,L] c)->FpOk X pins H I->FpOk X pins H S->
   RelV Z J->Rep X.K F Z db->RelV yb L->Rep X.K F yb q->maxF (ds.drop (j+1)) db q=some dm->
   (∀ x v F' H' s',Inv X pins σ H' s'->RelV x v->Ext F0 H0 F' H'->Rep X.K F' x dm->R (.ok (.ret v)) s')->
   codeAny (model X.prog X.w) X.A (.builtin "max.loop" ⟨[.ref I,.builtin "len",.ref S],kw⟩) R s:=by
 have G:(toString "max"++toString ".loop":String)="max.loop":=by decide
 intro r
 induction r with
 |zero=>
  intro j H F H0 F0 s Z yb J L db q c R hr hj I' ext sq rs O hS fI fS rb pb ry py hm hR
  have a8:j+1=ds.length:=by omega
  obtain⟨its,vr,pl,_⟩:=I'.list sq
  have zl:its.length=ds.length:=by rw[<-vr.length,rs.length]
  rw[a8,List.drop_length]at hm
  have hm:some db=some dm:=hm
  cases hm
  refine codeAny_builtin PySem.F.entry_max_loop ?_
  rw[Around.under_plainId PySem.F.plain_max_loop _]
  show wpAny _ X.A.in1 (seqItems? (.ref S) >>= _) _ _ _
  refine wpAny_bind (wpAny_seqItems hS rfl ?_)
  show wpAny _ X.A.in1 (tryCatch (pyNext (.ref I)) _ >>= _) _ _ _
  refine wpAny_bind (wpAny_tryCatch (wpAny_pyNext_list_end (I'.ok.hd hc) O pl.isList (by simp;omega) fun h' a2=>?_))
  have ab:h'.get? S=some (seqObj "list" #[J,L] c):=a2 S _ (Ne.symm U) hS
  have s1:=Heap.SameBut.update h' S (Obj.mapSeq fun _=>(#[]:Array Value))
  show wpAny _ X.A.in1 (updateSeq S (fun _=>#[]) >>= _) _ _ _
  refine wpAny_bind ?_
  refine wpAny_updateSeq ab rfl (wpAny_bind (wpAny_letGo (wpAny_pure ?_)))
  have I9:Inv X pins σ H { s with heap:=h'.update S (Obj.mapSeq fun _=>(#[]:Array Value)),toks:=s.toks }:=I'.turnedL (fp:=[I,S]) (t':=s.toks) (fun b o i e=>by
   simp only[List.mem_cons,List.not_mem_nil,or_false,not_or]at i
   exact(s1.2 b i.2).trans (a2 b o i.1 e)) (fun b i=>by
   simp only[List.mem_cons,List.not_mem_nil,or_false]at i
   rcases i with rfl|rfl <;> assumption)
  exact hR Z J F H _ I9 rb ext pb
 |succ r ih=>
  intro j H F H0 F0 s Z yb J L db q c R hr hj I' ext sq rs O hS fI fS rb pb ry py hm hR
  have N:j+1<ds.length:=by omega
  obtain⟨its,vr,pl,_⟩:=I'.list sq
  have zl:its.length=ds.length:=by rw[<-vr.length,rs.length]
  obtain⟨d,hd⟩:∃ d,ds[j+1]? =some d:=⟨_,List.getElem?_eq_getElem N⟩
  obtain⟨x,hx,px⟩:=rs.get hd
  obtain⟨v,hv,rx⟩:=vr.get hx
  rw[j7 hd]at hm
  unfold maxF at hm
  cases hkd:O5 d with
  |none=>rw[hkd]at hm;cases hm
  |some kd=>
   rw[hkd]at hm
   dsimp only at hm
   refine codeAny_builtin PySem.F.entry_max_loop ?_
   rw[Around.under_plainId PySem.F.plain_max_loop _]
   show wpAny _ X.A.in1 (seqItems? (.ref S) >>= _) _ _ _
   refine wpAny_bind (wpAny_seqItems hS rfl ?_)
   show wpAny _ X.A.in1 (tryCatch (pyNext (.ref I)) _ >>= _) _ _ _
   refine wpAny_bind (wpAny_tryCatch (wpAny_pyNext_list_item O pl.isList (by simpa using hv) fun h1 a4 s1=>?_))
   have I1:Inv X pins σ H { s with heap:=h1,toks:=s.toks }:=I'.turnedL (fp:=[I]) (fun b o i e=>s1.extBut b o (by simpa using i) e) (fun b i=>by rw[List.mem_singleton.mp i];exact fI)
   have aa:h1.get? S=some (seqObj "list" #[J,L] c):=s1.extBut _ _ (Ne.symm U) hS
   obtain⟨oI,eI,cI,dI⟩:=id a4
   have Ip:=I1.pin2 fI fS eI aa (fun v z=>by rw[dI]at z;cases z) (fun v z=>by cases z)
   show wpAny _ X.A.in1 (tryCatch (holding [v] (call (.builtin "len") [v])) _ >>= _) _ _ _
   refine wpAny_bind (wpAny_tryCatch (wpAny_holding (wpAny_mono (key_len (pins++[(I,oI),(S,seqObj "list" #[J,L] c)]) σ H F _ x v d kd Ip ext.fh px rx hkd) (fun w s2 hw=>?_) fun _ _ z=>z.elim)))
   obtain⟨y,F2,H2,I2,a0,M,a1⟩:=hw
   have pI:=I2.pin (I,oI) (by simp)
   have pS:=I2.pin (S,seqObj "list" #[J,L] c) (by simp)
   have a7:Inv X pins σ H2 s2:=I2.unpinned
   have a6:FpOk X pins H2 I:=fI.now pI.2.1
   have Y:FpOk X pins H2 S:=fS.now pS.2.1
   have a3:s2.heap.IsListIter I l (j+1+1):=⟨oI,pI.1,cI,dI⟩
   cases hlt8:gtI kd q with
   |none=>rw[hlt8]at hm;cases hm
   |some bt=>
    rw[hlt8]at hm
    have a5:=gt_at (A:=X.A.in1) (s:=s2) a1 py a0 ry hlt8
    show wpAny _ X.A.in1 (tryCatch (holding [v,w] (richCompare .Gt w L >>= _)) _ >>= _) _ _ _
    refine wpAny_bind (wpAny_tryCatch (wpAny_holding (wpAny_bind (a5 X.prog X.w _ _ ?_))))
    refine wpAny_bind (wpAny_holding (wpAny_truthy_bool ?_))
    refine wpAny_bind (wpAny_letGo (wpAny_pure ?_))
    cases bt with
    |true=>
     have s3:=Heap.SameBut.update s2.heap S (Obj.mapSeq fun _=>#[v,w])
     obtain⟨c2,a9⟩:∃ c2,(s2.heap.update S (Obj.mapSeq fun _=>#[v,w])).get? S=some (seqObj "list" #[v,w] c2):=⟨_,get?_update_seq pS.1 fun _=>#[v,w]⟩
     simp only[if_true]
     refine wpAny_bind ?_
     refine wpAny_updateSeq pS.1 rfl (wpAny_bind (wpAny_letGo ?_))
     rw[G]
     have I3:Inv X pins σ H2 { s2 with heap:=s2.heap.update S (Obj.mapSeq fun _=>#[v,w]),toks:=s2.toks }:=a7.turnedL (fp:=[S]) (fun b o i e=>(s3.2 b (by simpa using i)).trans e) (fun b i=>by rw[List.mem_singleton.mp i];exact Y)
     refine wpAny_pure ⟨plainId_quiet PySem.F.plain_max_loop _,ih (j+1) H2 F2 H0 F0 _ x y v w d kd c2 R (by omega) N I3 (ext.trans M) (M.hh.seq sq) (rs.mono M.ff) ⟨oI,(s3.2 I U).trans pI.1,cI,dI⟩ a9 a6 Y rx (px.mono M.ff) a0 a1 hm hR⟩
    |false=>
     simp only[Bool.false_eq_true,if_false]
     refine wpAny_bind (wpAny_letGo ?_)
     rw[G]
     refine wpAny_pure ⟨plainId_quiet PySem.F.plain_max_loop _,ih (j+1) H2 F2 H0 F0 _ Z yb J L db q c R (by omega) N a7 (ext.trans M) (M.hh.seq sq) (rs.mono M.ff) a3 pS.1 a6 Y rb (pb.mono M.ff) ry (py.mono M.ff) hm hR⟩
set_option maxHeartbeats 8000000 in
theorem max_top (hc:X.calm=true)(hu:X.A.units+64<cLine){l:Addr}{xs:List V}{ds:List D}{dm d0:D}{H F:Hp}{s:Shared}{x0:V}{M:Value}{E:Value->Shared->Prop}{Q:Value->Shared->Prop}
  (I:Inv X pins σ H s) (sf:Same F H) (sq:SqL X.K H l xs) (rs:Reps X.K F xs ds) (r0:RelV x0 M) (p0:Rep X.K F x0 d0) (hm:maxD ds d0=some dm)
  (hQ:∀ x v F' H' s',Inv X pins σ H' s'->RelV x v->Ext F H F' H'->Rep X.K F' x dm->Q v s'):
  wpAny (model X.prog X.w) X.A (call (.builtin "max") [.ref l] [(Str.ofString "key",.builtin "len"),(Str.ofString "default",M)]) Q E s:=by
 have q:(toString "max"++toString ".loop":String)="max.loop":=by decide
 obtain⟨its,vr,pl,_⟩:=I.list sq
 have U:=pl.isList
 obtain⟨ol,a4,_⟩:=id U
 have Y:l<s.heap.objs.size:=Heap.lt_size a4
 refine kmk_tree PySem.F.kind_max PySem.F.plain_max PySem.F.entry_max (args_max_kd _ _ _) ?_
 show wpAny _ X.A.in1 (Builtin.Builtins.bindParams "max" ["key","default"] 0 ⟨[],[(Str.ofString "key",.builtin "len"),(Str.ofString "default",M)]⟩ >>= _) _ _ s
 refine wpAny_bind (wpAny_of_eq (show Builtin.Builtins.bindParams "max" ["key","default"] 0 ⟨[],[(Str.ofString "key",.builtin "len"),(Str.ofString "default",M)]⟩=pure [some (.builtin "len"),some M]from rfl) ?_)
 refine wpAny_bind (wpAny_pure ?_)
 refine wpAny_bind (wpAny_pyIter_list U ?_)
 refine wpAny_bind (wpAny_newList ?_ (Nat.zero_le _))
 rw[q]
 refine wpAny_pure ⟨plainId_quiet PySem.F.plain_max_loop _,?_⟩
 generalize G:({ cls:=.type "list_iterator",data:=.fields #[.ref l,.int 0 0] }:Obj)=oI0
 have hS:(s.heap.push oI0).objs.size=s.heap.objs.size+1:=size_push' ..
 have a6:l≠s.heap.objs.size:=Nat.ne_of_lt Y
 have a5:l≠(s.heap.push oI0).objs.size:=by rw[hS];exact Nat.ne_of_lt (Nat.lt_succ_of_lt Y)
 have L:s.heap.objs.size≠(s.heap.push oI0).objs.size:=by rw[hS];exact Nat.ne_of_lt (Nat.lt_succ_self _)
 have gI:((s.heap.push oI0).push (seqObj "list" #[] 0)).get? s.heap.objs.size=some oI0:=Heap.get?_push_of_some _ (Heap.get?_push_size _ (by rw[<-G];rfl))
 have gS:((s.heap.push oI0).push (seqObj "list" #[] 0)).get? (s.heap.push oI0).objs.size=some (seqObj "list" #[] 0):=Heap.get?_push_size _ rfl
 have fI:FpOk X pins H s.heap.objs.size:=I.fpOk (Nat.le_refl _) (I.hok.fresh (Nat.le_refl _))
 have fS:FpOk X pins H (s.heap.push oI0).objs.size:=I.fpOk (by rw[hS];exact Nat.le_succ _) (I.hok.fresh (by rw[hS];exact Nat.le_succ _))
 have I0:Inv X pins σ H { s with heap:=(s.heap.push oI0).push (seqObj "list" #[] 0),toks:=s.toks }:=I.turnedL (fp:=[]) (fun b o _ e=>Heap.get?_push_of_some _ (Heap.get?_push_of_some _ e)) (fun b j=>by cases j)
 generalize (s.heap.push oI0).objs.size=S at*
 generalize hI:s.heap.objs.size=J at*
 generalize (s.heap.push oI0).push (seqObj "list" #[] 0)=h0 at*
 have a0:h0.IsListIter J l 0:=⟨_,gI,by rw[<-G],by rw[<-G];rfl⟩
 have zl:its.length=ds.length:=by rw[<-vr.length,rs.length]
 obtain⟨its',O,R,_⟩:=I0.list sq
 have N:its'.length=ds.length:=by rw[<-O.length,rs.length]
 refine codeAny_builtin PySem.F.entry_max_loop ?_
 rw[Around.under_plainId PySem.F.plain_max_loop _]
 show wpAny _ X.A.in1 (seqItems? (.ref S) >>= _) _ _ _
 refine wpAny_bind (wpAny_seqItems gS rfl ?_)
 show wpAny _ X.A.in1 (tryCatch (pyNext (.ref J)) _ >>= _) _ _ _
 cases ds with
 |nil=>
  have hm:some d0=some dm:=hm
  cases hm
  refine wpAny_bind (wpAny_tryCatch (wpAny_pyNext_list_end (I.ok.hd hc) a0 R.isList (by simp at N ⊢;simp[N]) fun h' a7=>?_))
  refine wpAny_bind (wpAny_rule (wpAny_pure ?_))
  have I9:=I0.turnedL (h':=h') (fp:=[J]) (t':=s.toks) (fun b o j e=>a7 b o (by simpa using j) e) (fun b j=>by rw[List.mem_singleton.mp j];exact fI)
  exact hQ x0 M F H _ I9 r0 (Ext.refl sf) p0
 |cons d ds=>
  obtain⟨x,hx,px⟩:=rs.get (i:=0) (d:=d) rfl
  obtain⟨v,hv,rx⟩:=O.get hx
  unfold maxD at hm
  dsimp only at hm
  cases hkd:O5 d with
  |none=>rw[hkd]at hm;cases hm
  |some kd=>
   rw[hkd]at hm
   dsimp only at hm
   refine wpAny_bind (wpAny_tryCatch (wpAny_pyNext_list_item a0 R.isList (by simpa using hv) fun h1 Z s1=>?_))
   have I1:=I0.turnedL (h':=h1) (t':=s.toks) (fp:=[J]) (fun b o j e=>s1.extBut b o (by simpa using j) e) (fun b j=>by rw[List.mem_singleton.mp j];exact fI)
   have a9:h1.get? S=some (seqObj "list" #[] 0):=s1.extBut _ _ (Ne.symm L) gS
   obtain⟨oI,eI,cI,dI⟩:=id Z
   have Ip:=I1.pin2 fI fS eI a9 (fun v z=>by rw[dI]at z;cases z) (fun v z=>by cases z)
   show wpAny _ X.A.in1 (tryCatch (holding [v] (call (.builtin "len") [v])) _ >>= _) _ _ _
   refine wpAny_bind (wpAny_tryCatch (wpAny_holding (wpAny_mono (key_len (pins++[(J,oI),(S,seqObj "list" #[] 0)]) σ H F _ x v d kd Ip sf px rx hkd) (fun w s2 hw=>?_) fun _ _ z=>z.elim)))
   obtain⟨y,F2,H2,I2,a2,x2,a3⟩:=hw
   have pI:=I2.pin (J,oI) (by simp)
   have pS:=I2.pin (S,seqObj "list" #[] 0) (by simp)
   have ab:Inv X pins σ H2 s2:=I2.unpinned
   have aa:FpOk X pins H2 J:=fI.now pI.2.1
   have a1:FpOk X pins H2 S:=fS.now pS.2.1
   have s3:=Heap.SameBut.update s2.heap S (Obj.mapSeq fun _=>#[v,w])
   obtain⟨c2,a8⟩:∃ c2,(s2.heap.update S (Obj.mapSeq fun _=>#[v,w])).get? S=some (seqObj "list" #[v,w] c2):=⟨_,get?_update_seq pS.1 fun _=>#[v,w]⟩
   show wpAny _ X.A.in1 (updateSeq S (fun _=>#[v,w]) >>= _) _ _ _
   refine wpAny_bind (wpAny_updateSeq pS.1 rfl ?_)
   rw[q]
   have I3:Inv X pins σ H2 { s2 with heap:=s2.heap.update S (Obj.mapSeq fun _=>#[v,w]),toks:=s2.toks }:=ab.turnedL (fp:=[S]) (fun b o j e=>(s3.2 b (by simpa using j)).trans e) (fun b j=>by rw[List.mem_singleton.mp j];exact a1)
   refine wpAny_pure ⟨plainId_quiet PySem.F.plain_max_loop _,max_loop hc hu (ds:=d::ds) (dm:=dm) L a6 a5 _ 0 H2 F2 H F _ x y v w d kd c2 _ rfl (by simp) I3 x2 (x2.hh.seq sq) (rs.mono x2.ff) ⟨oI,(s3.2 J L).trans pI.1,cI,dI⟩ a8 aa a1 rx (px.mono x2.ff) a2 a3 hm fun x v F' H' s' a b c d=>hQ x v F' H' s' a b c d⟩
@[irreducible] noncomputable def P9 (m:ML)(md:ME):ME:=fun ρ=>(m ρ).bind fun ds=>(md ρ).bind fun d0=>maxD ds d0
theorem mmaxLen_some {m:ML}{i:ME}{ρ:Ro}{g:D}(h:P9 m i ρ=some g):∃ ds d0,m ρ=some ds/\i ρ=some d0/\maxD ds d0=some g:=by
 unfold P9 at h
 cases h1:m ρ with
 |none=>rw[h1]at h;cases h
 |some d=>
  cases h2:i ρ with
  |none=>rw[h1,h2]at h;cases h
  |some e=>rw[h1,h2]at h;exact⟨d,e,rfl,rfl,h⟩
theorem mmaxLen_ev {m:ML}{i:ME}{ρ:Ro}{ds:List D}{d0:D}(h1:m ρ=some ds)(h2:i ρ=some d0):P9 m i ρ=maxD ds d0:=by
 unfold P9
 rw[h1,h2];rfl
theorem pd_maxLen {p S kp j pos:Pos}{e O:Expr}{m:ML}{U:ME}(hc:X.calm=true)(hu:X.A.units+64<cLine)(hg:Gl X "max")(hm:X.mg "max"=none)(M:Gl X "len")(L:X.mg "len"=none)(ha:PB X e m)(hd:PD X O U)
  (J:starEach (e::[]) X.env=(false,eval e X.env)::starEach [] X.env:=by rfl):
  PD X (.Call (.Name "max" p) [e] [⟨some "key",.Name "len" S,kp⟩,⟨some "default",O,j⟩] pos) (P9 m U):=by
 intro pins s σ H Q I h
 obtain⟨F0,H0,F,ρ,g,R,em,q0⟩:=h
 obtain⟨ds,d0,h1,h2,h3⟩:=mmaxLen_some em
 refine wpAny_Call_Name_kw (X2 I hg hm PyProof.Rows.boot_max ?_ (by decide) (by decide))
 have A:=b9 ha pa_nil J pos pins s σ H (fun vs H1=>∃ p xs F1,vs=[.ref p]/\Ext F H F1 H1/\SqL X.K H1 p xs/\Reps X.K F1 xs ds) I ⟨F0,H0,F,ρ,ds,R,h1,fun p xs F1 H1 z s1 r1=>⟨p,xs,F1,rfl,z,s1,r1⟩⟩
 refine callWith_kw (thn A fun us s1 i=>?_) (by rw[J];rfl) (by rw[J];rfl)
 obtain⟨vs,H1,Y,r1,p,xs,F1,N,z,sq,rs⟩:=i
 subst N
 obtain⟨u,rfl,ru⟩:=M7 r1
 cases ru
 show wpAny _ _ (evalAll ((do let v ← eval (.Name "len" S) X.env;standAt pos;pure v)::(backToKw pos (keywordEach [⟨some "default",O,j⟩] X.env)).map (·.2))) _ _ s1
 refine wpAny_evalAll_cons (wpAny_bind (X2 Y M L boot_len (wpAny_bind (wpAny_standAt (wpAny_pure ?_))) (by decide) (by decide)))
 have B:=L8 (nm:=some "default") (kpos:=j) hd pk_nil pos pins s1 σ H1 (fun vs H2=>∃ y F2,vs=[y]/\Ext F1 H1 F2 H2/\Rep X.K F2 y d0) Y ⟨F0,H0,F1,ρ,d0,R.go z,h2,fun y F2 H2 q r2=>⟨y,F2,rfl,q,r2⟩⟩
 refine thn B fun us s2 i=>?_
 obtain⟨vs,H2,I2,r2,y,F2,N,q,p0⟩:=i
 subst N
 obtain⟨u2,rfl,G⟩:=M7 r2
 exact max_top hc hu I2 q.fh (q.hh.seq sq) (rs.mono q.ff) G p0 h3 fun x v F' H' s' I' rx Z px=>⟨x,H',I',rx,q0 x F' H' ((z.trans q).trans Z) px⟩
end
end L2
namespace L2
open PySem PySem.Spec PyProof.Rows
section
variable {X:Cx}{pins:List (Addr×Obj)}{σ:St}
end
section
variable {X:Cx}
end
end L2
namespace L2
open PySem PySem.Spec PyProof.Rows
theorem args_max_d (a u:Value):argsOk "max" ⟨[a],[(Str.ofString "default",u)]⟩:=by unfold argsOk;kernel_rfl
noncomputable def maxP:List D->D->Option D
 |[],b=>some b
 |d::ds,b=>(match gtI d b with |some true=>maxP ds d|some false=>maxP ds b|none=>none)
noncomputable def maxE (ds:List D)(d0:D):Option D:=match ds with
 |[]=>some d0
 |d::ds=>maxP ds d
section
variable {X:Cx}{pins:List (Addr×Obj)}{σ:St}
set_option maxHeartbeats 8000000 in
theorem max_loop0 (hc:X.calm=true)(hu:X.A.units+64<cLine){l I S:Addr}{xs:List V}{ds:List D}{kw:List (Str×Value)}{dm:D}(N:I≠S)(a6:l≠I)(a5:l≠S):
  ∀(r j:Nat)(H F H0 F0:Hp)(s:Shared)(U:V)(q:Value)(O:D)(c:Nat)(R:Result->Shared->Prop),
   ds.length-(j+1)=r->j+1<=ds.length->Inv X pins σ H s->Ext F0 H0 F H->SqL X.K H l xs->Reps X.K F xs ds->s.heap.IsListIter I l (j+1)->s.heap.get? S=some (seqObj "list" #[q,q] c)->FpOk X pins H I->FpOk X pins H S->
   RelV U q->Rep X.K F U O->maxP (ds.drop (j+1)) O=some dm->
   (∀ x v F' H' s',Inv X pins σ H' s'->RelV x v->Ext F0 H0 F' H'->Rep X.K F' x dm->R (.ok (.ret v)) s')->
   codeAny (model X.prog X.w) X.A (.builtin "max.loop" ⟨[.ref I,.none,.ref S],kw⟩) R s:=by
 have z:(toString "max"++toString ".loop":String)="max.loop":=by decide
 intro r
 induction r with
 |zero=>
  intro j H F H0 F0 s U q O c R hr hj Z ext sq Y L hS fI fS rb pb hm hR
  have a2:j+1=ds.length:=by omega
  obtain⟨its,vr,pl,_⟩:=Z.list sq
  have zl:its.length=ds.length:=by rw[<-vr.length,Y.length]
  rw[a2,List.drop_length]at hm
  have hm:some O=some dm:=hm
  cases hm
  refine codeAny_builtin PySem.F.entry_max_loop ?_
  rw[Around.under_plainId PySem.F.plain_max_loop _]
  show wpAny _ X.A.in1 (seqItems? (.ref S) >>= _) _ _ _
  refine wpAny_bind (wpAny_seqItems hS rfl ?_)
  show wpAny _ X.A.in1 (tryCatch (pyNext (.ref I)) _ >>= _) _ _ _
  refine wpAny_bind (wpAny_tryCatch (wpAny_pyNext_list_end (Z.ok.hd hc) L pl.isList (by simp;omega) fun h' a0=>?_))
  have a4:h'.get? S=some (seqObj "list" #[q,q] c):=a0 S _ (Ne.symm N) hS
  have s1:=Heap.SameBut.update h' S (Obj.mapSeq fun _=>(#[]:Array Value))
  show wpAny _ X.A.in1 (updateSeq S (fun _=>#[]) >>= _) _ _ _
  refine wpAny_bind ?_
  refine wpAny_updateSeq a4 rfl (wpAny_bind (wpAny_letGo (wpAny_pure ?_)))
  have I9:Inv X pins σ H { s with heap:=h'.update S (Obj.mapSeq fun _=>(#[]:Array Value)),toks:=s.toks }:=Z.turnedL (fp:=[I,S]) (t':=s.toks) (fun b o i e=>by
   simp only[List.mem_cons,List.not_mem_nil,or_false,not_or]at i
   exact(s1.2 b i.2).trans (a0 b o i.1 e)) (fun b i=>by
   simp only[List.mem_cons,List.not_mem_nil,or_false]at i
   rcases i with rfl|rfl <;> assumption)
  exact hR U q F H _ I9 rb ext pb
 |succ r ih=>
  intro j H F H0 F0 s U q O c R hr hj Z ext sq Y L hS fI fS rb pb hm hR
  have J:j+1<ds.length:=by omega
  obtain⟨its,vr,pl,_⟩:=Z.list sq
  have zl:its.length=ds.length:=by rw[<-vr.length,Y.length]
  obtain⟨d,hd⟩:∃ d,ds[j+1]? =some d:=⟨_,List.getElem?_eq_getElem J⟩
  obtain⟨x,hx,px⟩:=Y.get hd
  obtain⟨v,hv,rx⟩:=vr.get hx
  rw[j7 hd]at hm
  unfold maxP at hm
  refine codeAny_builtin PySem.F.entry_max_loop ?_
  rw[Around.under_plainId PySem.F.plain_max_loop _]
  show wpAny _ X.A.in1 (seqItems? (.ref S) >>= _) _ _ _
  refine wpAny_bind (wpAny_seqItems hS rfl ?_)
  show wpAny _ X.A.in1 (tryCatch (pyNext (.ref I)) _ >>= _) _ _ _
  refine wpAny_bind (wpAny_tryCatch (wpAny_pyNext_list_item L pl.isList (by simpa using hv) fun h1 G s1=>?_))
  have I1:Inv X pins σ H { s with heap:=h1,toks:=s.toks }:=Z.turnedL (fp:=[I]) (fun b o i e=>s1.extBut b o (by simpa using i) e) (fun b i=>by rw[List.mem_singleton.mp i];exact fI)
  have M:h1.get? S=some (seqObj "list" #[q,q] c):=s1.extBut _ _ (Ne.symm N) hS
  cases hlt8:gtI d O with
  |none=>rw[hlt8]at hm;cases hm
  |some bt=>
   rw[hlt8]at hm
   have a1:=gt_at (A:=X.A.in1) (s:={ s with heap:=h1,toks:=s.toks }) px pb rx rb hlt8
   refine wpAny_bind (wpAny_pure ?_)
   show wpAny _ X.A.in1 (tryCatch (holding [v,v] (richCompare .Gt v q >>= _)) _ >>= _) _ _ _
   refine wpAny_bind (wpAny_tryCatch (wpAny_holding (wpAny_bind (a1 X.prog X.w _ _ ?_))))
   refine wpAny_bind (wpAny_holding (wpAny_truthy_bool ?_))
   refine wpAny_bind (wpAny_letGo (wpAny_pure ?_))
   cases bt with
   |true=>
    have s3:=Heap.SameBut.update h1 S (Obj.mapSeq fun _=>#[v,v])
    obtain⟨c2,a3⟩:∃ c2,(h1.update S (Obj.mapSeq fun _=>#[v,v])).get? S=some (seqObj "list" #[v,v] c2):=⟨_,get?_update_seq M fun _=>#[v,v]⟩
    simp only[if_true]
    refine wpAny_bind ?_
    refine wpAny_updateSeq M rfl (wpAny_bind (wpAny_letGo ?_))
    rw[z]
    have I3:=I1.turnedL (h':=h1.update S (Obj.mapSeq fun _=>#[v,v])) (t':=s.toks) (fp:=[S]) (fun b o i e=>(s3.2 b (by simpa using i)).trans e) (fun b i=>by rw[List.mem_singleton.mp i];exact fS)
    refine wpAny_pure ⟨plainId_quiet PySem.F.plain_max_loop _,ih (j+1) H F H0 F0 _ x v d c2 R (by omega) J I3 ext sq Y (G.at fun o e=>(s3.2 I N).trans e) a3 fI fS rx px hm hR⟩
   |false=>
    simp only[Bool.false_eq_true,if_false]
    refine wpAny_bind (wpAny_letGo ?_)
    rw[z]
    refine wpAny_pure ⟨plainId_quiet PySem.F.plain_max_loop _,ih (j+1) H F H0 F0 _ U q O c R (by omega) J I1 ext sq Y G M fI fS rb pb hm hR⟩
set_option maxHeartbeats 8000000 in
theorem max_topD (hc:X.calm=true)(hu:X.A.units+64<cLine){l:Addr}{xs:List V}{ds:List D}{dm d0:D}{H F:Hp}{s:Shared}{x0:V}{L:Value}{E:Value->Shared->Prop}{Q:Value->Shared->Prop}
  (I:Inv X pins σ H s) (sf:Same F H) (sq:SqL X.K H l xs) (rs:Reps X.K F xs ds) (r0:RelV x0 L) (p0:Rep X.K F x0 d0) (hm:maxE ds d0=some dm)
  (hQ:∀ x v F' H' s',Inv X pins σ H' s'->RelV x v->Ext F H F' H'->Rep X.K F' x dm->Q v s'):
  wpAny (model X.prog X.w) X.A (call (.builtin "max") [.ref l] [(Str.ofString "default",L)]) Q E s:=by
 have q:(toString "max"++toString ".loop":String)="max.loop":=by decide
 obtain⟨its,vr,pl,_⟩:=I.list sq
 have R:=pl.isList
 obtain⟨ol,a1,_⟩:=id R
 have U:l<s.heap.objs.size:=Heap.lt_size a1
 refine kmk_tree PySem.F.kind_max PySem.F.plain_max PySem.F.entry_max (args_max_d _ _) ?_
 show wpAny _ X.A.in1 (Builtin.Builtins.bindParams "max" ["key","default"] 0 ⟨[],[(Str.ofString "default",L)]⟩ >>= _) _ _ s
 refine wpAny_bind (wpAny_of_eq (show Builtin.Builtins.bindParams "max" ["key","default"] 0 ⟨[],[(Str.ofString "default",L)]⟩=pure [none,some L]from rfl) ?_)
 refine wpAny_bind (wpAny_pure ?_)
 refine wpAny_bind (wpAny_pyIter_list R ?_)
 refine wpAny_bind (wpAny_newList ?_ (Nat.zero_le _))
 rw[q]
 refine wpAny_pure ⟨plainId_quiet PySem.F.plain_max_loop _,?_⟩
 generalize z:({ cls:=.type "list_iterator",data:=.fields #[.ref l,.int 0 0] }:Obj)=oI0
 have hS:(s.heap.push oI0).objs.size=s.heap.objs.size+1:=size_push' ..
 have a3:l≠s.heap.objs.size:=Nat.ne_of_lt U
 have a2:l≠(s.heap.push oI0).objs.size:=by rw[hS];exact Nat.ne_of_lt (Nat.lt_succ_of_lt U)
 have G:s.heap.objs.size≠(s.heap.push oI0).objs.size:=by rw[hS];exact Nat.ne_of_lt (Nat.lt_succ_self _)
 have gI:((s.heap.push oI0).push (seqObj "list" #[] 0)).get? s.heap.objs.size=some oI0:=Heap.get?_push_of_some _ (Heap.get?_push_size _ (by rw[<-z];rfl))
 have gS:((s.heap.push oI0).push (seqObj "list" #[] 0)).get? (s.heap.push oI0).objs.size=some (seqObj "list" #[] 0):=Heap.get?_push_size _ rfl
 have fI:FpOk X pins H s.heap.objs.size:=I.fpOk (Nat.le_refl _) (I.hok.fresh (Nat.le_refl _))
 have fS:FpOk X pins H (s.heap.push oI0).objs.size:=I.fpOk (by rw[hS];exact Nat.le_succ _) (I.hok.fresh (by rw[hS];exact Nat.le_succ _))
 have I0:Inv X pins σ H { s with heap:=(s.heap.push oI0).push (seqObj "list" #[] 0),toks:=s.toks }:=I.turnedL (fp:=[]) (fun b o _ e=>Heap.get?_push_of_some _ (Heap.get?_push_of_some _ e)) (fun b j=>by cases j)
 generalize (s.heap.push oI0).objs.size=S at*
 generalize hI:s.heap.objs.size=J at*
 generalize (s.heap.push oI0).push (seqObj "list" #[] 0)=h0 at*
 have Z:h0.IsListIter J l 0:=⟨_,gI,by rw[<-z],by rw[<-z];rfl⟩
 have zl:its.length=ds.length:=by rw[<-vr.length,rs.length]
 obtain⟨its',N,O,_⟩:=I0.list sq
 have M:its'.length=ds.length:=by rw[<-N.length,rs.length]
 refine codeAny_builtin PySem.F.entry_max_loop ?_
 rw[Around.under_plainId PySem.F.plain_max_loop _]
 show wpAny _ X.A.in1 (seqItems? (.ref S) >>= _) _ _ _
 refine wpAny_bind (wpAny_seqItems gS rfl ?_)
 show wpAny _ X.A.in1 (tryCatch (pyNext (.ref J)) _ >>= _) _ _ _
 cases ds with
 |nil=>
  have hm:some d0=some dm:=hm
  cases hm
  refine wpAny_bind (wpAny_tryCatch (wpAny_pyNext_list_end (I.ok.hd hc) Z O.isList (by simp at M ⊢;simp[M]) fun h' a4=>?_))
  refine wpAny_bind (wpAny_rule (wpAny_pure ?_))
  have I9:=I0.turnedL (h':=h') (fp:=[J]) (t':=s.toks) (fun b o j e=>a4 b o (by simpa using j) e) (fun b j=>by rw[List.mem_singleton.mp j];exact fI)
  exact hQ x0 L F H _ I9 r0 (Ext.refl sf) p0
 |cons d ds=>
  obtain⟨x,hx,px⟩:=rs.get (i:=0) (d:=d) rfl
  obtain⟨v,hv,rx⟩:=N.get hx
  refine wpAny_bind (wpAny_tryCatch (wpAny_pyNext_list_item Z O.isList (by simpa using hv) fun h1 Y s1=>?_))
  have I1:=I0.turnedL (h':=h1) (t':=s.toks) (fp:=[J]) (fun b o j e=>s1.extBut b o (by simpa using j) e) (fun b j=>by rw[List.mem_singleton.mp j];exact fI)
  have a0:h1.get? S=some (seqObj "list" #[] 0):=s1.extBut _ _ (Ne.symm G) gS
  refine wpAny_bind (wpAny_pure ?_)
  have s3:=Heap.SameBut.update h1 S (Obj.mapSeq fun _=>#[v,v])
  obtain⟨c2,a5⟩:∃ c2,(h1.update S (Obj.mapSeq fun _=>#[v,v])).get? S=some (seqObj "list" #[v,v] c2):=⟨_,get?_update_seq a0 fun _=>#[v,v]⟩
  show wpAny _ X.A.in1 (updateSeq S (fun _=>#[v,v]) >>= _) _ _ _
  refine wpAny_bind (wpAny_updateSeq a0 rfl ?_)
  rw[q]
  have I3:=I1.turnedL (h':=h1.update S (Obj.mapSeq fun _=>#[v,v])) (t':=s.toks) (fp:=[S]) (fun b o j e=>(s3.2 b (by simpa using j)).trans e) (fun b j=>by rw[List.mem_singleton.mp j];exact fS)
  exact wpAny_pure ⟨plainId_quiet PySem.F.plain_max_loop _,max_loop0 hc hu (ds:=d::ds) (dm:=dm) G a3 a2 _ 0 H F H F _ x v d c2 _ rfl (by simp) I3 (.refl sf) sq rs (Y.at fun o e=>(s3.2 J G).trans e) a5 fI fS rx px hm fun x v F' H' s' a b c d=>hQ x v F' H' s' a b c d⟩
@[irreducible] noncomputable def mmaxE (m:ML)(md:ME):ME:=fun ρ=>(m ρ).bind fun ds=>(md ρ).bind fun d0=>maxE ds d0
theorem mmaxE_some {m:ML}{i:ME}{ρ:Ro}{g:D}(h:mmaxE m i ρ=some g):∃ ds d0,m ρ=some ds/\i ρ=some d0/\maxE ds d0=some g:=by
 unfold mmaxE at h
 cases h1:m ρ with
 |none=>rw[h1]at h;cases h
 |some d=>
  cases h2:i ρ with
  |none=>rw[h1,h2]at h;cases h
  |some e=>rw[h1,h2]at h;exact⟨d,e,rfl,rfl,h⟩
theorem mmaxE_ev {m:ML}{i:ME}{ρ:Ro}{ds:List D}{d0:D}(h1:m ρ=some ds)(h2:i ρ=some d0):mmaxE m i ρ=maxE ds d0:=by
 unfold mmaxE
 rw[h1,h2];rfl
theorem pd_maxE {p q pos:Pos}{e O:Expr}{m:ML}{N:ME}(hc:X.calm=true)(hu:X.A.units+64<cLine)(hg:Gl X "max")(hm:X.mg "max"=none)(ha:PB X e m)(hd:PD X O N)
  (J:starEach (e::[]) X.env=(false,eval e X.env)::starEach [] X.env:=by rfl):
  PD X (.Call (.Name "max" p) [e] [⟨some "default",O,q⟩] pos) (mmaxE m N):=by
 intro pins s σ H Q I h
 obtain⟨F0,H0,F,ρ,g,M,em,Z⟩:=h
 obtain⟨ds,d0,h1,h2,h3⟩:=mmaxE_some em
 refine wpAny_Call_Name_kw (X2 I hg hm PyProof.Rows.boot_max ?_ (by decide) (by decide))
 have A:=b9 ha pa_nil J pos pins s σ H (fun vs H1=>∃ p xs F1,vs=[.ref p]/\Ext F H F1 H1/\SqL X.K H1 p xs/\Reps X.K F1 xs ds) I ⟨F0,H0,F,ρ,ds,M,h1,fun p xs F1 H1 z s1 r1=>⟨p,xs,F1,rfl,z,s1,r1⟩⟩
 refine callWith_kw (thn A fun us s1 i=>?_) (by rw[J];rfl) (by rw[J];rfl)
 obtain⟨vs,H1,I1,r1,p,xs,F1,L,z,S,Y⟩:=i
 subst L
 obtain⟨u,rfl,U⟩:=M7 r1
 cases U
 have B:=L8 (nm:=some "default") (kpos:=q) hd pk_nil pos pins s1 σ H1 (fun vs H2=>∃ y F2,vs=[y]/\Ext F1 H1 F2 H2/\Rep X.K F2 y d0) I1 ⟨F0,H0,F1,ρ,d0,M.go z,h2,fun y F2 H2 j r2=>⟨y,F2,rfl,j,r2⟩⟩
 refine thn B fun us s2 i=>?_
 obtain⟨vs,H2,I2,r2,y,F2,L,j,p0⟩:=i
 subst L
 obtain⟨u2,rfl,G⟩:=M7 r2
 exact max_topD hc hu I2 j.fh (j.hh.seq S) (Y.mono j.ff) G p0 h3 fun x v F' H' s' I' rx R px=>⟨x,H',I',rx,Z x F' H' ((z.trans j).trans R) px⟩
end
end L2
namespace L2
open PySem PySem.Spec PyProof.Rows PySem.Builtin PySem.Builtin.Str
section
variable {X:Cx}{a b c e o:Expr}{ma mb mo:ME}{pos:Pos}
end
end L2
namespace L2
open PySem PySem.Spec PyProof.Rows PySem.Builtin PySem.Builtin.Str
section
variable {X:Cx}{a b c e o:Expr}{ma mb mo:ME}{pos:Pos}
end
end L2
namespace L2
open PySem PySem.Spec PyProof.Rows
noncomputable def G2 (src:List (Option Nat))(ρ:Ro):Ro:=src.map fun o=>o.bind fun i=>match ρ[i]? with |some (some (.sh d))=>some (.sh d)|some (some (.own ds))=>some (.own ds)|_=>none
@[irreducible] noncomputable def J1 (src:List (Option Nat))(mi:ML)(g:Tg)(c:MB)(elt:ME):ML:=fun ρ=>(mi ρ).bind fun its=>d9 g c elt its (G2 src ρ) []
noncomputable def srcOk (src:List (Option Nat)):Prop:=∀ i j k:Nat,src[i]? =some (some k)->src[j]? =some (some k)->i=j
theorem srcOk_of {src:List (Option Nat)}(h:∀ i,i<src.length->∀ j,j<src.length->src[i]? =src[j]?->src[i]? =some none\/i=j):srcOk src:=fun i j k hi q=>by
 have G:=(List.getElem?_eq_some_iff.mp hi).1
 have z:=(List.getElem?_eq_some_iff.mp q).1
 rcases h i G j z (by rw[hi,q])with e|e
 .rw[hi]at e;cases e
 .exact e
theorem S8 {src:List (Option Nat)}{ρ:Ro}{i:Nat}{x:S}(e:(G2 src ρ)[i]? =some (some x)):∃ k,src[i]? =some (some k)/\ρ[k]? =some (some x)/\nob (some x):=by
 unfold G2 at e
 rw[List.getElem?_map]at e
 cases h:src[i]? with
 |none=>rw[h]at e;cases e
 |some o=>
  rw[h]at e
  cases o with
  |none=>cases e
  |some k=>
   simp only[Option.map_some,Option.bind_some]at e
   split at e
   .rename_i d h';cases e;exact⟨k,rfl,h',True.intro⟩
   .rename_i ds h';cases e;exact⟨k,rfl,h',True.intro⟩
   .cases e
theorem blk0_at {src:List (Option Nat)}{σ:St}{i k:Nat}{v:V}(h:src[i]? =some (some k))(j:σ[k]? =some (some v)):(blk0 src σ)[i]? =some (some v):=by
 unfold blk0
 rw[List.getElem?_map,h]
 simp only[Option.map_some,Option.bind_some,j];rfl
theorem blk0_back {src:List (Option Nat)}{σ:St}{i k:Nat}{v:V}(h:src[i]? =some (some k))(j:(blk0 src σ)[i]? =some (some v)):σ[k]? =some (some v):=by
 unfold blk0 at j
 rw[List.getElem?_map,h]at j
 simp only[Option.map_some,Option.bind_some]at j
 cases hk:σ[k]? with
 |none=>rw[hk]at j;cases j
 |some o=>rw[hk]at j;simpa using j
theorem Rl.blkO {K:PySem.W.Frag}{F0 H0 F H:Hp}{σ:St}{ρ:Ro}(r:Rl K F0 H0 F H σ ρ){src:List (Option Nat)}(ok:srcOk src){p:Addr}(hp:H p=none):Rl K F (upd F p (.lst [])) F (upd H p (.lst [])) (blk0 src σ) (G2 src ρ):=by
 have L:F p=none:=r.fh.free hp
 refine⟨⟨Same.refl F,r.fh.put2,r.fh.put L,fun b e n=>absurd e n,fun _ _ _ z=>z⟩,by unfold blk0 G2;simp,fun i d e=>?_,fun i ds e=>?_,fun i j q ds es G e1 e2 s1 s2=>?_,fun i q ds e=>?_,fun i j q ds es e=>?_,fun i j q N ds es e=>?_⟩
 .obtain⟨k,h1,h2,_⟩:=S8 e
  obtain⟨v,a,b⟩:=r.sh k d h2
  exact⟨v,blk0_at h1 a,b⟩
 .obtain⟨k,h1,h2,_⟩:=S8 e
  obtain⟨q,xs,a,b,c,d,z⟩:=r.own k ds h2
  have I:q≠p:=fun w=>by rw[w,hp]at c;cases c
  exact⟨q,xs,blk0_at h1 a,b,by rw[w5 I];exact c,d,by rw[w5 I];exact b⟩
 .obtain⟨k,h1,h2,_⟩:=S8 e1
  obtain⟨l,J,M,_⟩:=S8 e2
  refine r.inj k l q ds es (fun w=>?_) h2 M (blk0_back h1 s1) (blk0_back J s2)
  subst w
  exact G (ok i j k h1 J)
 .obtain⟨k,h1,h2,n⟩:=S8 e;exact n.elim
 .obtain⟨k,h1,h2,n⟩:=S8 e;exact n.elim
 .obtain⟨k,h1,h2,n⟩:=S8 e;exact n.elim
theorem Rl.rebase {K:PySem.W.Frag}{F1 F H:Hp}{σ:St}{ρ:Ro}{p:Addr}{xs ys:List V}(r:Rl K F1 (upd F1 p (.lst xs)) F H σ ρ)(G:F p=none)(I:F1 p=none):Rl K F1 (upd F1 p (.lst ys)) F (upd H p (.lst ys)) σ ρ:=by
 have ne:∀ q,upd F1 p (.lst xs) q=none->q≠p:=fun q z w=>by rw[w,x8]at z;cases z
 refine⟨⟨r.ext.ff,fun b u e=>?_,r.fh.put G,fun b e n=>?_,r.ext.nf⟩,r.len,r.sh,fun i ds e=>?_,r.inj,fun i q ds e=>?_,r.obn,r.ob1⟩
 .by_cases hb:b=p
  .subst hb;rw[x8]at e ⊢;exact e
  .rw[w5 hb]at e ⊢
   exact r.ext.hh b u (by rw[w5 hb];exact e)
 .have hb:b≠p:=fun w=>by rw[w,G]at n;exact n rfl
  rw[w5 hb];exact e
 .obtain⟨q,zs,a,b,c,d,z⟩:=r.own i ds e
  have j:=ne q z
  rw[w5 j]at z
  exact⟨q,zs,a,b,by rw[w5 j];exact c,d,by rw[w5 j];exact z⟩
 .obtain⟨a,b,z,zs,c,d⟩:=r.ob i q ds e
  have j:=ne q z
  rw[w5 j]at z
  exact⟨a,b,by rw[w5 j];exact z,zs,by rw[w5 j];exact c,d⟩
theorem Ext.acc {F H F' H':Hp}{p:Addr}{o:HO}(x:Ext F H F' H')(hp:H p=none)(i:F' p=none):Ext F H F' (upd H' p o):=⟨x.ff,x.hh.put hp,x.fh.put i,x.new,x.nf⟩
theorem comp_tfO {K:PySem.W.Frag}{src:List (Option Nat)}{mi:ML}{g:Tg}{c:MB}{L:ME}(so:srcOk src){σ:St}{H:Hp}{Q:VK}(h:TF K (J1 src mi g c L) σ H Q):M8 src (TId K mi) (TGd K g) (TC K c) (TD K L) σ H Q:=by
 obtain⟨F0,H0,F,ρ,out,rl,e,q⟩:=h
 unfold J1 at e
 cases h1:mi ρ with
 |none=>rw[h1]at e;cases e
 |some its=>
  rw[h1]at e
  have e:d9 g c L its (G2 src ρ) []=some out:=e
  refine⟨F0,H0,F,ρ,its,rl,h1,fun J F1 H1 x1 I=>?_⟩
  intro p hp
  have rb:=(rl.go x1).blkO so hp
  have Z:F1 p=none:=x1.fh.free hp
  refine⟨fun i m a1 H'=>∃ F' ρ' acc xs,Rl K F1 (upd F1 p (.lst xs)) F' H' a1 ρ'/\Ext F1 H1 F' H'/\H' p=some (.lst xs)/\F' p=none/\Reps K F' xs acc/\i<=its.length/\m=its.length-i/\d9 g c L (its.drop i) ρ' acc=some out,
   ⟨_,F1,G2 src ρ,[],[],rb,(Ext.refl x1.fh).acc hp Z,x8,Z,.nil,Nat.zero_le _,rfl,e⟩,?_⟩
  rintro i m a1 H' ⟨F',ρ',acc,xs,U,xe,O,a3,ra,a6,rfl,j⟩
  by_cases Y:i<its.length
  .right
   have hd:=List.getElem?_eq_getElem Y
   refine⟨I.go i F' H' xe.ff U.fh Y,fun a0 H2=>∃ F2 R z M,Rl K F1 (upd F1 p (.lst M)) F2 H2 a0 R/\Ext F1 H1 F2 H2/\H2 p=some (.lst M)/\F2 p=none/\Reps K F2 M z/\d9 g c L (its.drop (i+1)) R z=some out,?_,fun x H2 y=>?_⟩
   .rintro a0 H2 ⟨F2,R,z,M,b1,b2,b3,b4,b5,b6⟩
    exact⟨its.length-(i+1),by omega,F2,R,z,M,b1,b2,b3,b4,b5,Y,rfl,b6⟩
   .obtain⟨F2,x2,r2⟩:=I.yld i F' H' x H2 _ xe.ff U.fh hd y
    rw[j7 hd]at j
    unfold d9 at j
    have pn:∀{F3 H3:Hp},Ext F' H' F3 H3->F3 p=none:=fun{F3 H3} x3=>by
     cases qq:F3 p with
     |none=>rfl
     |some o=>have:=x3.new p a3 (by rw[qq];simp);rw[this]at O;cases O
    cases h2:tgD g its[i] ρ' with
    |none=>simp only[h2]at j;cases j
    |some ρ1=>
     simp only[h2]at j
     refine⟨F1,_,F2,ρ',_,ρ1,U.go x2,r2,h2,fun F3 H3 a5 S x3=>?_⟩
     have a4:=x2.trans x3
     cases h3:c ρ1 with
     |none=>simp only[h3]at j;cases j
     |some k=>
      refine⟨F1,_,F3,ρ1,k,S,h3,fun F4 H4 x4=>?_⟩
      have N:=a4.trans x4
      cases k with
      |false=>
       simp only[h3]at j
       exact iteF ⟨F4,ρ1,acc,xs,S.go x4,xe.trans N,N.hh _ _ O,pn N,ra.mono N.ff,j⟩
      |true=>
       simp only[h3]at j
       refine iteT ?_
       cases h4:L ρ1 with
       |none=>simp only[h4]at j;cases j
       |some d=>
        simp only[h4]at j
        split at j
        .rename_i hz
         refine⟨F1,_,F4,ρ1,d,S.go x4,h4,fun v F5 H5 x5 r5=>?_⟩
         have G:=N.trans x5
         refine⟨xs,G.hh _ _ O,by rw[ra.length];exact hz,F5,ρ1,acc++[d],xs++[v],((S.go x4).go x5).rebase (pn G) Z,(xe.trans G).acc hp (pn G),x8,pn G,(ra.mono G.ff).append (.cons r5 .nil),j⟩
        .cases j
  .left
   have a2:i=its.length:=by omega
   subst a2
   rw[List.drop_length]at j
   have j:some acc=some out:=j
   cases j
   exact⟨I.stop F' H' xe.ff U.fh,q p xs F' H' (x1.trans xe) (x1.hh.free hp) a3 O ra⟩
section
variable {X:Cx}{a b c e o:Expr}{ma mb mo:ME}{pos:Pos}{st:Stmt}
theorem pf_compO {sc:Scope}{N:List Str}{src:List (Option Nat)}{tg j iter:Expr}{i:List Expr}{z:ML}{g:Tg}{cc:MB}{q:ME}(G:srcOk src)(B:Blk X sc N src)(O:X.calm=true)
  (hi:PId X tg iter z) (L:∀ C fp s H,PGd (c6 X sc C N fp s H) tg g) (I:∀ C fp s H,PTsd (c6 X sc C N fp s H) i cc) (M:∀ C fp s H,PD (c6 X sc C N fp s H) j q)
  (J:∀ x,foldedSetIterable iter X.env x=pure x:=by intro _;rfl):
  PF X (.ListComp j [⟨tg,iter,i,0⟩] sc pos) (J1 src z g cc q):=(pe_comp (g:=TGd X.K g) (tc:=TC X.K cc) (te:=TD X.K q) B O hi (fun C fp s H=>L C fp s H) (fun C fp s H=>I C fp s H) (fun C fp s H=>M C fp s H) J).imp fun _ _ _ h=>comp_tfO G h
end
end L2
namespace L2
open PySem PySem.Spec PyProof.Rows
section
variable {prog:Program}{w:World}{A:Around}{E:Value->Shared->Prop}{s:Shared}{l:Addr}{xs:Array (Int×Tok)}
end
section
variable {X:Cx}{a b c e o:Expr}{ma mb mo:ME}{pos:Pos}{st:Stmt}
end
section
variable {X:Cx}{a b c e:Expr}{na nb:MEm}{pos:Pos}{st:Stmt}{es:List Expr}{E:XK}{mf:MF}{m:MLm}
@[irreducible] noncomputable def mcallm (f:MF)(m:MLm):MEm:=fun ρ=>match m ρ with
 |some (ds,ρ1)=>(match f ds with |some (.sh d)=>some (d,ρ1)|some (.fr es)=>some (.lst es,ρ1)|_=>none)
 |none=>none
theorem pdm_call {n:Nat}(h:∀ t,PA X es t->PE X e (tCall (spR X.K n mf) [] E t))(L:es.length=n)(ha:PAm X es m)(hm:∀ ρ ds ρ',m ρ=some (ds,ρ')->ds.length=es.length):PDm X e (mcallm mf m):=(h _ ha).imp fun σ H Q j=>by
 obtain⟨F0,H0,F,ρ,d,ρ',J,e,q⟩:=j
 unfold mcallm at e
 split at e
 .rename_i ds ρ1 h1
  refine⟨F0,H0,F,ρ,ds,ρ1,J,h1,fun vs F1 H1 i s1 r1=>?_⟩
  show spR X.K n mf (vs++[]) H1 Q E
  rw[List.append_nil]
  refine⟨by rw[r1.length,hm ρ ds ρ1 h1,L],F1,ds,?_⟩
  split at e
  .rename_i d' h2
   cases e
   exact⟨_,i.fh,r1,h2,fun v F2 H2 z r2=>q v F2 H2 (i.go z) (s1.trans z.ff) r2⟩
  .rename_i es' h2
   cases e
   refine⟨_,i.fh,r1,h2,fun p xs F2 H2 z hp I M r2=>?_⟩
   have G:=z.freeze I hp M
   exact q _ (upd F2 p (.lst xs)) H2 (i.go G) (s1.trans G.ff) (.lst (SqL.of x8) (r2.mono ((Same.refl F2).put I)))
  .cases e
 .cases e
noncomputable abbrev MBm:=Ro->Option (Bool×Ro)
noncomputable def TCm (K:PySem.W.Frag)(c:MBm):TT:=fun σ H Q=>∃ F0 H0 F ρ b ρ',Rl K F0 H0 F H σ ρ/\c ρ=some (b,ρ')/\∀ F' H',Rl K F0 H0 F' H' σ ρ'->Same F F'->Q b H'
@[irreducible] noncomputable def mtestm (x:MEm):MBm:=fun ρ=>match x ρ with |some (.bl b,ρ1)=>some (b,ρ1)|_=>none
@[irreducible] noncomputable def mifm (c:MBm)(x y:MS):MS:=fun ρ=>match c ρ with |some (true,ρ1)=>x ρ1|some (false,ρ1)=>y ρ1|none=>none
theorem psd_ifm {ca:MBm}{x y:List Stmt}{mx z:MS}(J:PT X c (TCm X.K ca))(I:PSsd X x mx)(G:PSsd X y z):PSd X (.If c x y pos) (mifm ca mx z):=(ps_if J I G).imp fun D σ H j=>by
 obtain⟨F0,H0,F,ρ,o,q,e,ok⟩:=j
 unfold mifm at e
 split at e
 .rename_i ρ1 h1
  exact⟨F0,H0,F,ρ,_,ρ1,q,h1,fun F1 H1 i s1=>iteT ⟨F0,H0,F1,ρ1,o,i,e,ok.mono s1⟩⟩
 .rename_i ρ1 h1
  exact⟨F0,H0,F,ρ,_,ρ1,q,h1,fun F1 H1 i s1=>iteF ⟨F0,H0,F1,ρ1,o,i,e,ok.mono s1⟩⟩
 .cases e
end
end L2
namespace L2
open PySem PySem.Spec PyProof.Rows
section
variable {X:Cx}{a b c e:Expr}{na nb:MEm}{pos:Pos}{st:Stmt}{es:List Expr}{m:MLm}
end
noncomputable def Q8 (elt:MEm):List D->Ro->List D->Option (List D×Ro)
 |[],ρ,acc=>some (acc,ρ)
 |d::ds,ρ,acc=>match elt (ρ.set 0 (some (.sh d)))with
  |some (x,ρ1)=>if acc.length<sizeLine then Q8 elt ds ρ1 (acc++[x])else none
  |none=>none
theorem Rl.rebaseB {K:PySem.W.Frag}{F1 F H B:Hp}{σ:St}{ρ:Ro}{p:Addr}{xs ys:List V}(r:Rl K F1 (upd B p (.lst xs)) F H σ ρ)(G:F p=none):Rl K F1 (upd B p (.lst ys)) F (upd H p (.lst ys)) σ ρ:=by
 have ne:∀ q,upd B p (.lst xs) q=none->q≠p:=fun q z w=>by rw[w,x8]at z;cases z
 refine⟨⟨r.ext.ff,fun b u e=>?_,r.fh.put G,fun b e n=>?_,r.ext.nf⟩,r.len,r.sh,fun i ds e=>?_,r.inj,fun i q ds e=>?_,r.obn,r.ob1⟩
 .by_cases hb:b=p
  .subst hb;rw[x8]at e ⊢;exact e
  .rw[w5 hb]at e ⊢
   exact r.ext.hh b u (by rw[w5 hb];exact e)
 .have hb:b≠p:=fun w=>by rw[w,G]at n;exact n rfl
  have:=r.ext.new b e n
  rw[w5 hb]at this ⊢;exact this
 .obtain⟨q,zs,a,b,c,d,z⟩:=r.own i ds e
  have j:=ne q z
  rw[w5 j]at z
  exact⟨q,zs,a,b,by rw[w5 j];exact c,d,by rw[w5 j];exact z⟩
 .obtain⟨a,b,z,zs,c,d⟩:=r.ob i q ds e
  have j:=ne q z
  rw[w5 j]at z
  exact⟨a,b,by rw[w5 j];exact z,zs,by rw[w5 j];exact c,d⟩
section
variable {X:Cx}{pos:Pos}
end
end L2
namespace L2
open PySem PySem.Spec PyProof.Rows
section
variable {X:Cx}{e:Expr}{na:MEm}{pos:Pos}{st:Stmt}{es:List Expr}{m:ML}{mf:MG}{E:XK}
noncomputable def numsD:List D->Bool
 |[]=>true
 | .int _::r=>numsD r
 |_=>false
theorem reps_nums {K:PySem.W.Frag}{F F':Hp}:∀{vs:List V}{ds:List D},numsD ds=true->Reps K F vs ds->Reps K F' vs ds
 |_,[],_,.nil=>.nil
 |_,d::ds,h,.cons r rr=>by
  cases r with
  |int k=>exact .cons (.int k) (reps_nums h rr)
  |_=>cases h
noncomputable def NoL (K:PySem.W.Frag):Prop:=∀ p o,List.lookup p K=some o->o.cls≠ .type "list"
noncomputable def noLb:PySem.W.Frag->Bool
 |[]=>true
 | (_,o)::r=>(match o.cls with | .type c=>c != "list"|_=>true)&&noLb r
theorem NoL.of:∀{K:PySem.W.Frag},noLb K=true->NoL K
 |[],_=>fun p o e=>by cases e
 | (a,o')::r,h=>fun p o e z=>by
  have h:((match o'.cls with | .type c=>c != "list"|_=>true)&&noLb r)=true:=h
  rw[Bool.and_eq_true]at h
  rw[List.lookup_cons]at e
  split at e
  .cases e
   rw[z]at h
   exact absurd h.1 (by decide)
  .exact NoL.of h.2 p o e z
open Classical in
end
end L2
namespace L2
open PySem PySem.Spec PyProof.Rows
section
variable {X:Cx}
end
end L2
namespace L2
open PySem PySem.Spec PyProof.Rows
section
variable {X:Cx}{e:Expr}{pos:Pos}
@[irreducible] noncomputable def many (m:ML):ME:=fun ρ=>match m ρ with |some ds=>(match Q4 ds with |some ns=>some (.bl (ns.any fun i=>i != 0))|none=>none)|none=>none
end
end L2
namespace L2
open PySem PySem.Spec PyProof.Rows
section
variable {X:Cx}{e:Expr}{ma:ME}{pos:Pos}
end
end L2
namespace L2
open PySem PySem.Spec PyProof.Rows
section
variable {X:Cx}{e:Expr}{ma:ME}{pos:Pos}
end
end L2
namespace L2
open PySem PySem.Spec PyProof.Rows
noncomputable def IsRev (h:Heap)(a l:Addr)(k:Int):Prop:=∃ o,h.get? a=some o/\o.cls= .type "list_reverseiterator"/\o.data= .fields #[.ref l,rawInt k]
section
variable {prog:Program}{w:World}{A:Around}{E:Value->Shared->Prop}{s:Shared}
theorem IsRev.ty {a l:Addr}{k:Int}(h:IsRev s.heap a l k):s.TypeIs (.ref a) "list_reverseiterator":=by
 obtain⟨o,e,c,d⟩:=h
 exact⟨o,e,c⟩
end
section
variable {X:Cx}
end
end L2
namespace L2
open PySem PySem.Spec PyProof.Rows
section
variable {X:Cx}{a:Expr}{na:MEm}{pos:Pos}{ca:MBm}
theorem pcm_bool (ha:PDm X a na)(G:∀ i,isTrue a X.env i=(do let v ← i;standAt a.pos;holding [v] (truthy v)):=by intro _;rfl):PT X a (TCm X.K (mtestm na)):=(pt_truth ha G).imp fun σ H Q I=>by
 obtain⟨F0,H0,F,ρ,b,ρ',z,e,q⟩:=I
 unfold mtestm at e
 split at e
 .rename_i b' ρ1 h1
  cases e
  refine⟨F0,H0,F,ρ,_,_,z,h1,fun x F1 H1 j s1 r1=>⟨b,?_,q F1 H1 j s1⟩⟩
  cases r1
  rfl
 .cases e
@[irreducible] noncomputable def cnotm (c:MBm):MBm:=fun ρ=>match c ρ with |some (b,ρ1)=>some (!b,ρ1)|none=>none
theorem pcm_not (ha:PT X a (TCm X.K ca)):PT X (.UnaryOp .Not a pos) (TCm X.K (cnotm ca)):=(pt_not ha).imp fun σ H Q z=>by
 obtain⟨F0,H0,F,ρ,b,ρ',j,e,q⟩:=z
 unfold cnotm at e
 split at e
 .rename_i k ρ1 h1
  cases e
  exact⟨F0,H0,F,ρ,k,ρ',j,h1,fun F1 H1 i s1=>q F1 H1 i s1⟩
 .cases e
end
end L2
namespace L2
open PySem PySem.Spec PyProof.Rows
section
variable {X:Cx}{a b:Expr}{m:ML}{pos:Pos}
end
end L2
namespace L2
open PySem PySem.Spec PyProof.Rows PySem.W PySem.Builtin PySem.Builtin.ObjectAttr PySem.Builtin.Getset_descriptor
structure XCls (K:PySem.W.Frag)(C:Addr):Prop where
 ga:findIn K (.ref C) "__getattribute__"=some (some (.builtin "BaseException.__getattribute__"))
 nog:findIn K (.ref C) "__getattr__"=some none
 cl:findIn K (.ref C) "__class__"=some (some (.builtin "object.__class__"))
 ob:mroIn K C (.type "object")=some true
 be:mroIn K C (.type "BaseException")=some true
section
variable {prog:Program}{w:World}{A:Around}{E:Value->Shared->Prop}{K:PySem.W.Frag}{x C:Addr}{ox:Obj}{h:Heap}{g:Array GenState}{d:Drawn}{t:Nat}{os:OsState}
end
end L2
namespace L2
open PySem PySem.Spec PyProof.Rows
structure Flown (P:Program)(w:World)(outer:List Env)(H:Hp)(s:Shared)(H':Hp)(B h':Heap):Prop where
 un:Un (frs outer) [] H H' s.heap h'
 ok:HOk P w H' h'
 st:B.StaysIn h'
 trk:∀ b o,H' b=some o->∃ ob,B.get? b=some ob
 old:∀ b o,s.heap.get? b=some o->b∉frs outer->∃ ob,B.get? b=some ob
section
variable {P:Program}{w:World}{outer:List Env}{H H':Hp}{s:Shared}{B h1 h2 base:Heap}
theorem Flown.on (f:Flown P w outer H s H' B h1)(fr:h1.FunFrames base outer)(st:B.StaysIn h2)(N:h1.UpToSlots h2):Flown P w outer H s H' B h2:=by
 have same:∀ b o,h1.get? b=some o->(∃ ob,B.get? b=some ob)->h2.get? b=some o:=fun b o e J=>by
  obtain⟨ob,L⟩:=J
  have:=f.st b ob L
  rw[e]at this;cases this
  exact st b o L
 have i:∀ b o,b∈frs outer->h1.get? b=some o->∃ sl,h2.get? b=some { o with slots:=sl }:=fun b o j e=>by
  obtain⟨_,o',M,hd⟩:=fr.mem j
  rw[e]at M;cases M
  exact N b o e hd
 refine⟨⟨fun b o e n j I=>same b o (f.un.keep b o e n j I) (f.old b o e j),fun b o e n j I=>?_,f.un.free,fun b o e I=>?_,f.un.tups,f.un.frzs,f.un.tbls⟩,fun b u e=>?_,st,f.trk,f.old⟩
 .obtain⟨sl,e1⟩:=f.un.slot b o e n j I
  obtain⟨G,e2⟩:=i b _ j e1
  exact⟨G,e2⟩
 .by_cases j:b∈frs outer
  .obtain⟨o1,e1⟩:=f.un.there b o e I
   obtain⟨G,e2⟩:=i b _ j e1
   exact⟨_,e2⟩
  .obtain⟨ob,L⟩:=f.old b o e j
   exact⟨ob,st b ob L⟩
 .refine(f.ok b u e).stay (fun c v O q=>same c v q ?_) (fun _ q=>q) fun _ _ q=>q
  rcases O with z|z
  .rw[z];exact f.trk b u e
  .exact f.trk c _ z
end
structure Top (X:Cx):Prop where
 stk:X.stack=X.env::X.outer
 frm:X.env.frame=some X.env.locals
 ex:X.ex=[]
section
variable {X:Cx}{pins:List (Addr×Obj)}{σ:St}{H H':Hp}{s:Shared}{B h1:Heap}
theorem Flown.inv {s':Shared}(I:Inv X pins σ H s)(f:Flown X.prog X.w X.stack H s H' B s'.heap)(os:s'.os=s.os)(bare:AllBare s'.gens):Inv X pins σ H' s':=
 I.call' (ch:=[]) os f.un f.ok bare fun b z=>absurd z (by simp)
theorem Flown.out {s':Shared}(T:Top X)(I:Inv X pins σ H s)(f:Flown X.prog X.w X.stack H s H' B s'.heap)(os:s'.os=s.os)(bare:AllBare s'.gens):Flown X.prog X.w X.outer X.H₀ X.s₀ H' B s'.heap:=by
 have q:=f.inv I os bare
 refine⟨by have:=q.base;rw[T.ex]at this;exact this,f.ok,f.st,f.trk,fun b o e j=>?_⟩
 obtain⟨i,e1⟩:=I.base.there b o e (by rw[T.ex];simp)
 refine f.old b i e1 fun z=>?_
 rcases List.mem_cons.mp (I.stkSub b z)with z|z
 .exact absurd (Nat.lt_of_lt_of_le (Heap.lt_size e) I.ok.above) (by rw[z];exact Nat.lt_irrefl _)
 .exact j z
end
theorem ObjOk.there {P:Program}{w:World}{H:Hp}{h:Heap}{a:Addr}{o:HO}(x:ObjOk P w H h a o):∃ ob,h.get? a=some ob:=by
 cases o with
 |lst xs=>obtain⟨_,_,_,_,e⟩:=x;exact⟨_,e⟩
 |tup xs=>obtain⟨_,_,_,⟨_,e,_⟩⟩:=x;exact⟨_,e⟩
 |dK kvs=>obtain⟨_,_,_,_,o,_,_,e,_⟩:=x;exact⟨_,e⟩
 |dT kvs=>obtain⟨_,_,_,_,o,_,_,e,_⟩:=x;exact⟨_,e⟩
 |set S n=>obtain⟨o,_,_,_,e,_⟩:=x;exact⟨_,e⟩
 |ins C dx fs=>obtain⟨_,_,_,e,_⟩:=x;exact⟨_,e⟩
 |own y=>exact x
 |xd fs=>obtain⟨_,⟨_,_,_,e,_⟩,_⟩:=x;exact⟨_,e⟩
 |rng lo hi=>obtain⟨_,_,_,e⟩:=x;exact⟨_,e⟩
 |frz ob u=>exact⟨_,x.1⟩
 |tbl ps=>exact⟨_,show h.get? a=some _ from x⟩
 |met f y=>exact⟨_,show h.get? a=some _ from x⟩
 |ext φ=>exact x.2.1
noncomputable def XC (K:PySem.W.Frag)(c:Str)(C:Addr):Prop:=PySem.W.nsIn K mainGlobals c=some (some (.ref C))/\xName K C=some c
noncomputable def RXp (X:Cx)(pins:List (Addr×Obj))(W:Str->St->Hp->Prop)(ev:Value)(s3:Shared):Prop:=
 ∃(e C:Addr)(a0:Value)(σ':St)(H1:Hp)(s1:Shared)(H':Hp)(B:Heap)(c:Str),ev= .ref e/\Inv X pins σ' H1 s1/\s3.os=s1.os/\AllBare s3.gens/\Flown X.prog X.w X.stack H1 s1 H' B s3.heap/\
  Heap.FlyingW B X.stack e (.ref C) a0 s3.heap/\XC X.K c C/\W c σ' H'
noncomputable def RX (X:Cx)(pins:List (Addr×Obj))(W:Str->St->Hp->Prop)(ev:Value)(s':Shared):Prop:=
 wpAny (model X.prog X.w) X.A (noteFrame ev X.env) (fun _ s2=>wpAny (model X.prog X.w) X.A (setFlight ev none) (fun _ s3=>RXp X pins W ev s3) noE s2) noE s'
section
variable {X:Cx}{pins:List (Addr×Obj)}{σ:St}{H:Hp}{s:Shared}{W:Str->St->Hp->Prop}
end
noncomputable abbrev Cx.bear (X:Cx)(pins:List (Addr×Obj))(E:Value->Shared->Prop):Cx:={ X with pn:=X.pn++pins,xe:=E }
section
variable {X:Cx}{pins pins':List (Addr×Obj)}{σ:St}{H:Hp}{s:Shared}{E:Value->Shared->Prop}
theorem Cx.Ok.bear (ok:X.Ok):(X.bear pins E).Ok:=⟨ok.mod,ok.kind,ok.glob,ok.blt,ok.above,ok.inj,ok.has,ok.cab,ok.hd,ok.frames,ok.stk,ok.exf,ok.bs,ok.bsz,ok.noex,ok.exfs,ok.funs,ok.frf⟩
theorem Cx.Ok.unbear (ok:(X.bear pins E).Ok):X.Ok:=⟨ok.mod,ok.kind,ok.glob,ok.blt,ok.above,ok.inj,ok.has,ok.cab,ok.hd,ok.frames,ok.stk,ok.exf,ok.bs,ok.bsz,ok.noex,ok.exfs,ok.funs,ok.frf⟩
theorem Inv.bear (I:Inv X (pins++pins') σ H s):Inv (X.bear pins E) pins' σ H s:=⟨I.ok.bear,I.os,I.bare,I.base,I.loc,I.cell,I.free,I.freeC,fun p hp=>I.pin p (by rw[<-List.append_assoc];exact hp),I.hok,I.len⟩
theorem Inv.unbear (I:Inv (X.bear pins E) pins' σ H s):Inv X (pins++pins') σ H s:=⟨I.ok.unbear,I.os,I.bare,I.base,I.loc,I.cell,I.free,I.freeC,fun p hp=>I.pin p (by rw[<-List.append_assoc]at hp;exact hp),I.hok,I.len⟩
theorem Inv.fewer (I:Inv X (pins++pins') σ H s):Inv X pins σ H s:=⟨I.ok,I.os,I.bare,I.base,I.loc,I.cell,I.free,I.freeC,fun p hp=>I.pin p (by rw[<-List.append_assoc];exact List.mem_append_left _ hp),I.hok,I.len⟩
theorem SP.bear {D:Ends}{f:Flow}{s':Shared}(h:SP X (pins++pins') D f s'):SP (X.bear pins E) pins' D f s':=by
 cases f with
 |next=>obtain⟨i,H',I,q⟩:=h;exact⟨i,H',I.bear,q⟩
 |brk=>obtain⟨i,H',I,q⟩:=h;exact⟨i,H',I.bear,q⟩
 |cont=>obtain⟨i,H',I,q⟩:=h;exact⟨i,H',I.bear,q⟩
 |ret u=>obtain⟨v,i,H',I,r,q⟩:=h;exact⟨v,i,H',I.bear,r,q⟩
theorem SP.unbear {D:Ends}{f:Flow}{s':Shared}(h:SP (X.bear pins E) pins' D f s'):SP X (pins++pins') D f s':=by
 cases f with
 |next=>obtain⟨i,H',I,q⟩:=h;exact⟨i,H',I.unbear,q⟩
 |brk=>obtain⟨i,H',I,q⟩:=h;exact⟨i,H',I.unbear,q⟩
 |cont=>obtain⟨i,H',I,q⟩:=h;exact⟨i,H',I.unbear,q⟩
 |ret u=>obtain⟨v,i,H',I,r,q⟩:=h;exact⟨v,i,H',I.unbear,r,q⟩
variable (nx:X.xe=noE)
include nx
theorem PE.bear {e:Expr}{t:TE}(h:PE X e t):PE (X.bear pins E) e t:=fun pins' s σ H Q I hw=>
 wpAny_mono (h _ s σ H Q I.unbear hw) (fun _ _ ⟨v,H',i,r,q⟩=>⟨v,H',i.bear,r,q⟩) fun _ _ z=>by rw[nx]at z;exact z.elim
theorem PT.bear {e:Expr}{t:TT}(h:PT X e t):PT (X.bear pins E) e t:=fun pins' s σ H Q I hw=>
 wpAny_mono (h _ s σ H Q I.unbear hw) (fun _ _ ⟨H',i,q⟩=>⟨H',i.bear,q⟩) fun _ _ z=>by rw[nx]at z;exact z.elim
theorem PA.bear {es:List Expr}{t:TA}(h:PA X es t):PA (X.bear pins E) es t:=fun pos pins' s σ H Q I hw=>
 wpAny_mono (h pos _ s σ H Q I.unbear hw) (fun _ _ ⟨v,H',i,r,q⟩=>⟨v,H',i.bear,r,q⟩) fun _ _ z=>by rw[nx]at z;exact z.elim
theorem PS.bear {st:Stmt}{t:TS}(h:PS X st t):PS (X.bear pins E) st t:=fun pins' s σ H D I hw=>
 wpAny_mono (h _ s σ H D I.unbear hw) (fun _ _ q=>q.bear) fun _ _ z=>by rw[nx]at z;exact z.elim
theorem PSs.bear {st:List Stmt}{t:TS}(h:PSs X st t):PSs (X.bear pins E) st t:=fun pins' s σ H D I hw=>
 wpAny_mono (h _ s σ H D I.unbear hw) (fun _ _ q=>q.bear) fun _ _ z=>by rw[nx]at z;exact z.elim
end
end L2
namespace L2
open PySem PySem.Spec PyProof.Rows
noncomputable abbrev WX:=Str->St->Hp->Prop
noncomputable abbrev Cx.rx (X:Cx)(pins:List (Addr×Obj))(W:WX):Cx:=X.bear pins (RX X pins W)
section
variable {X:Cx}{st:Stmt}{rest:List Stmt}{e c:Expr}{pos:Pos}
theorem PS.or {t u:TS}(h:PS X st t)(k:PS X st u):PS X st fun D σ H=>t D σ H\/u D σ H:=fun pins s σ H D I q=>q.elim (fun z=>h pins s σ H D I z) fun z=>k pins s σ H D I z
theorem PSs.or {t u:TS}(h:PSs X rest t)(k:PSs X rest u):PSs X rest fun D σ H=>t D σ H\/u D σ H:=fun pins s σ H D I q=>q.elim (fun z=>h pins s σ H D I z) fun z=>k pins s σ H D I z
end
end L2
namespace L2
open PySem PySem.Spec PyProof.Rows
section
variable {X:Cx}{pins:List (Addr×Obj)}{E:Value->Shared->Prop}(nx:X.xe=noE)
include nx
theorem PG.bear {tg:Expr}{t:TG}(h:PG X tg t):PG (X.bear pins E) tg t:=fun pins' s σ H v u Q I r hw=>
 wpAny_mono (h _ s σ H v u Q I.unbear r hw) (fun _ _ ⟨i,H',j,q⟩=>⟨i,H',j.bear,q⟩) fun _ _ z=>by rw[nx]at z;exact z.elim
theorem PI.bear {tg it:Expr}{t:TI}(h:PI X tg it t):PI (X.bear pins E) tg it t:=fun pins' s σ H R I hw=>
 wpAny_mono (h _ s σ H R I.unbear hw) (fun v s1 h1=>wpAny_mono h1 (fun i s2 ⟨it,fp,tn,J,H',e,U,T,st,f,q⟩=>⟨it,fp,tn,J,H',e,U.bear,T,st,fun b j=>by
  obtain⟨S,O,N,M,L,G⟩:=f b j
  exact⟨S,O,N,M,L,fun p hp=>G p (by rw[<-List.append_assoc];exact hp)⟩,q⟩) fun _ _ z=>by rw[nx]at z;exact z.elim) fun _ _ z=>by rw[nx]at z;exact z.elim
end
section
variable {X:Cx}{e c:Expr}{pos:Pos}{st:Stmt}{rest:List Stmt}
end
end L2
namespace L2
open PySem PySem.Spec PyProof.Rows
section
variable {X:Cx}{pins:List (Addr×Obj)}{σ:St}{H:Hp}{s:Shared}{a C:Addr}
end
theorem Rl.drop {K:PySem.W.Frag}{F0 H0 F H:Hp}{σ:St}{ρ:Ro}(r:Rl K F0 H0 F H σ ρ)(i:Nat):Rl K F0 H0 F H (σ.set i none) (ρ.set i none):=by
 have get:∀(j:Nat) x,(ρ.set i none)[j]? =some (some x)->i≠j/\ρ[j]? =some (some x):=fun j x e=>by
  by_cases G:i=j
  .subst G
   have I:i<ρ.length:=by
    rcases Nat.lt_or_ge i ρ.length with z|z
    .exact z
    .rw[List.getElem?_eq_none (by simpa using z)]at e;cases e
   rw[List.getElem?_set_self I]at e;cases e
  .rw[List.getElem?_set_ne G]at e;exact⟨G,e⟩
 have L:∀(j:Nat) x,(σ.set i none)[j]? =some (some x)->σ[j]? =some (some x):=fun j x e=>by
  by_cases G:i=j
  .subst G
   have I:i<σ.length:=by
    rcases Nat.lt_or_ge i σ.length with z|z
    .exact z
    .rw[List.getElem?_eq_none (by simpa using z)]at e;cases e
   rw[List.getElem?_set_self I]at e;cases e
  .rw[List.getElem?_set_ne G]at e;exact e
 refine⟨r.ext,by simp[r.len],fun j d e=>?_,fun j ds e=>?_,fun j k p ds es J e1 e2 e3 M=>r.inj j k p ds es J (get j _ e1).2 (get k _ e2).2 (L j _ e3) (L k _ M),fun j p ds e=>?_,fun j k p ds es e1 e2 e3=>r.obn j k p ds es (get j _ e1).2 (get k _ e2).2 (L k _ e3),fun j k p q ds es e1 e2=>r.ob1 j k p q ds es (get j _ e1).2 (get k _ e2).2⟩
 .obtain⟨n,e⟩:=get j _ e
  rw[List.getElem?_set_ne n];exact r.sh j d e
 .obtain⟨n,e⟩:=get j _ e
  rw[List.getElem?_set_ne n];exact r.own j ds e
 .obtain⟨n,e⟩:=get j _ e
  rw[List.getElem?_set_ne n];exact r.ob j p ds e
section
variable {X:Cx}{pos np hpos:Pos}
end
end L2
namespace L2
open PySem PySem.Spec PyProof.Rows
structure RoomN (k:Nat)(A:Around):Prop where
 dp:A.depth+3*k+5<recursionLimit
 un:A.units+16*k+200<cLine
theorem Room.n {k:Nat}{A:Around}(r:Room k A):RoomN k A:=⟨r.dp,r.un⟩
theorem RoomN.mono {j k:Nat}{A:Around}(r:RoomN k A)(h:j<=k):RoomN j A:=⟨by have:=r.dp;omega,by have:=r.un;omega⟩
theorem RoomN.deeper {k:Nat}{A:Around}(r:RoomN (k+1) A)(env:Env):RoomN k (A.deeper env):=
 ⟨by have:=r.dp;show A.depth+1+3*k+5<_;omega,by have:=r.un;show A.units+3+16*k+200<_;omega⟩
theorem RoomN.units {k:Nat}{A:Around}(r:RoomN k A):A.units+64<cLine:=by have:=r.un;omega
structure FnOkN (P:Program)(w:World)(K:PySem.W.Frag)(mg:Str->Option Value)(base:Heap)(CX:CXT)(k:Nat)(f:Addr)(fd:FuncData)(ps:List Str)(sp:Sp):Prop where
 len:∀ vs H Q E,sp vs H Q E->vs.length=ps.length
 run:∀(A:Around)(outer:List Env)(s:Shared)(H:Hp)(args:Args)(us:List Value)(vs:List V)(Q:VK)(E:XK),RoomN k A->Env0 P w K mg base A outer s H->BindsTo s fd args (ps.zip us)->Vals vs us->sp vs H Q E->
  codeAny (model P w) A (.call (.ref f) args) (CR CX outer P w H s Q E) s
theorem FnOkN.mono {P:Program}{w:World}{K:PySem.W.Frag}{mg:Str->Option Value}{base:Heap}{CX:CXT}{j k:Nat}{f:Addr}{fd:FuncData}{ps:List Str}{sp:Sp}(F:FnOkN P w K mg base CX j f fd ps sp)(h:j<=k):FnOkN P w K mg base CX k f fd ps sp:=
 ⟨F.len,fun A outer s H args us vs Q E i=>F.run A outer s H args us vs Q E (i.mono h)⟩
section
variable {X:Cx}{CX:CXT}{k:Nat}{f:Addr}{fd:FuncData}{ps:List Str}{sp:Sp}{dvs:List V}{ds:List Value}{E:XK}{x:Str}{p pos:Pos}{e:Expr}{es:List Expr}{t:TA}
end
section
variable {X:Cx}{a:Expr}{ma:ME}{pos:Pos}
end
theorem XC.eq {K:PySem.W.Frag}{c:Str}{C x:Addr}(h:XC K c C)(e:PySem.W.nsIn K mainGlobals c=some (some (.ref x))):C=x:=by
 have:=h.1.symm.trans e
 cases this;rfl
end L2
namespace L2
open PySem PySem.Spec PyProof.Rows
section
variable {X:Cx}{a:Expr}{ma:ME}{pos:Pos}
open PySem.SeqAt in
end
end L2
namespace L2
open PySem PySem.Spec PyProof.Rows
@[irreducible] noncomputable def O0 (src:List (Option Nat))(mi:ML)(i j:Nat)(elt:MEm):MEm:=fun ρ=>match ρ[i]? with
 |some (some (.ob rr r0))=>(match mi ρ with
  |some its=>(match Q8 elt its ((d5 src ρ).set j (some (.own r0))) []with
   |some (out,ρb)=>(match ρb[j]? with |some (some (.own r1))=>some (.lst out,ρ.set i (some (.ob rr r1)))|_=>none)
   |none=>none)
  |none=>none)
 |_=>none
theorem Rl.blkJB {K:PySem.W.Frag}{F0 H0 F H:Hp}{σ:St}{ρ:Ro}(r:Rl K F0 H0 F H σ ρ){src:List (Option Nat)}{i j:Nat}{r0:List D}{rr p:Addr}(R:src[j]? =some (some i))(hi:ρ[i]? =some (some (.ob rr r0)))(hp:H p=none):
  Rl K F (upd (del H rr) p (.lst [])) F (upd H p (.lst [])) (blk0 src σ) ((d5 src ρ).set j (some (.own r0))):=by
 obtain⟨rb,N⟩:=r.blk src
 obtain⟨ha,b,z,xs,c,d⟩:=r.ob i rr r0 hi
 have I:rr≠p:=fun w=>by rw[w,hp]at c;cases c
 have U:F p=none:=r.fh.free hp
 have only:∀ k ds,((d5 src ρ).set j (some (S.own r0)))[k]? =some (some (.own ds))->k=j/\ds=r0:=fun k ds e=>by
  by_cases J:j=k
  .subst J
   have L:j<(d5 src ρ).length:=by
    rcases Nat.lt_or_ge j (d5 src ρ).length with w|w
    .exact w
    .rw[List.getElem?_eq_none (by simpa using w)]at e;cases e
   rw[List.getElem?_set_self L]at e;cases e;exact⟨rfl,rfl⟩
  .rw[List.getElem?_set_ne J]at e;exact absurd e (N k ds).1
 have G:∀(k:Nat)(q:Addr)(ds:List D),((d5 src ρ).set j (some (S.own r0)))[k]? ≠some (some (S.ob q ds)):=fun k q ds e=>(N k ds).2 q (m8 e).2
 refine⟨⟨Same.refl F,fun b u e=>?_,r.fh.put U,fun b e n=>absurd e n,fun _ _ _ z=>z⟩,by simp[rb.len],fun k d' e=>?_,fun k ds e=>?_,fun k l q ds es M e1 e2=>?_,fun k q ds e=>absurd e (G k q ds),fun k l q ds es e=>absurd e (G k q ds),fun k l q Y ds es e=>absurd e (G k q ds)⟩
 .by_cases hb:b=p
  .subst hb;rw[x8]at e ⊢;exact e
  .rw[w5 hb]at e ⊢
   by_cases O:b=rr
   .rw[O,M2]at e;cases e
   .rw[W7 O]at e;exact e
 .by_cases J:j=k
  .subst J
   have L:j<(d5 src ρ).length:=by
    rcases Nat.lt_or_ge j (d5 src ρ).length with w|w
    .exact w
    .rw[List.getElem?_eq_none (by simpa using w)]at e;cases e
   rw[List.getElem?_set_self L]at e;cases e
  .rw[List.getElem?_set_ne J]at e
   exact rb.sh k d' e
 .obtain⟨rfl,rfl⟩:=only k ds e
  exact⟨rr,xs,blk0_at R ha,b,by rw[w5 I];exact c,d,by rw[w5 I,M2]⟩
 .exact absurd ((only k ds e1).1.trans (only l es e2).1.symm) M
theorem comp_tdmB {K:PySem.W.Frag}{src:List (Option Nat)}{mi:ML}{i j:Nat}{O:MEm}(hs:src[j]? =some (some i))(hj:j≠0){σ:St}{H:Hp}{Q:VK}(h:TDm K (O0 src mi i j O) σ H Q):M8 src (TId K mi) (V7 0) tYes (TDm K O) σ H Q:=by
 obtain⟨F0,H0,F,ρ,g,ρ',rl,e,q⟩:=h
 unfold O0 at e
 split at e
 .rename_i rr r0 hi
  split at e
  .rename_i its h1
   split at e
   .rename_i out ρb h2
    split at e
    .rename_i r1 h3
     cases e
     refine⟨F0,H0,F,ρ,its,rl,h1,fun J F1 H1 x1 I=>?_⟩
     intro p hp
     have Y:=rl.go x1
     obtain⟨a1,a2,a5,ys,a3,a4⟩:=Y.ob i rr r0 hi
     have a7:rr≠p:=fun w=>by rw[w,hp]at a3;cases a3
     have aa:F1 p=none:=x1.fh.free hp
     have rb:=Y.blkJB hs hi hp
     have a9:del H1 rr p=none:=by rw[W7 (Ne.symm a7)];exact hp
     refine⟨fun k m S H'=>∃ F' ρ' acc xs,Rl K F1 (upd (del H1 rr) p (.lst xs)) F' H' S ρ'/\Reps K F' xs acc/\S[j]? =some (some (.ref rr))/\k<=its.length/\m=its.length-k/\Q8 O (its.drop k) ρ' acc=some (out,ρb),
      ⟨_,F1,_,[],[],rb,.nil,blk0_at hs a1,Nat.zero_le _,rfl,h2⟩,?_⟩
     rintro k m S H' ⟨F',ρ',acc,xs,z,ra,a6,ad,rfl,L⟩
     have a0:F' p=none:=by
      cases w:F' p with
      |none=>rfl
      |some o=>have:=z.ext.new p aa (by rw[w];simp);rw[x8]at this;cases this
     have ab:H' p=some (.lst xs):=z.ext.hh p _ x8
     by_cases Z:k<its.length
     .right
      have hd:=List.getElem?_eq_getElem Z
      refine⟨I.go k F' H' z.ext.ff z.fh Z,fun R H2=>∃ F2 M G N,Rl K F1 (upd (del H1 rr) p (.lst N)) F2 H2 R M/\Reps K F2 N G/\R[j]? =some (some (.ref rr))/\Q8 O (its.drop (k+1)) M G=some (out,ρb),?_,fun x H2 y=>?_⟩
      .rintro R H2 ⟨F2,M,G,N,b1,b2,b3,b4⟩
       exact⟨its.length-(k+1),by omega,F2,M,G,N,b1,b2,b3,Z,rfl,b4⟩
      .obtain⟨F2,x2,r2⟩:=I.yld k F' H' x H2 _ z.ext.ff z.fh hd y
       rw[j7 hd]at L
       unfold Q8 at L
       unfold V7 tYes
       refine iteT ?_
       split at L
       .rename_i d ρ1 h4
        split at L
        .rename_i hz
         refine⟨F1,_,F2,_,d,ρ1,(z.go x2).set r2,h4,fun v F5 H5 U s5 r5=>?_⟩
         have ac:F5 p=none:=by
          cases w:F5 p with
          |none=>rfl
          |some o=>have:=U.ext.new p aa (by rw[w];simp);rw[x8]at this;cases this
         refine⟨xs,U.ext.hh p _ x8,by rw[ra.length];exact hz,F5,ρ1,acc++[d],xs++[v],U.rebaseB ac,(ra.mono (x2.ff.trans s5)).append (.cons r5 .nil),by rw[List.getElem?_set_ne (Ne.symm hj)];exact a6,L⟩
        .cases L
       .cases L
     .left
      have a8:k=its.length:=by omega
      subst a8
      rw[List.drop_length]at L
      have L:some (acc,ρ')=some (out,ρb):=L
      cases L
      refine⟨I.stop F' H' z.ext.ff z.fh,?_⟩
      obtain⟨q',zs,f1,f2,f3,f4,f5⟩:=z.own j r1 h3
      rw[a6]at f1;cases f1
      have x:Ext F1 (del H1 rr) F' H':=⟨z.ext.ff,fun b u hb=>z.ext.hh b u (by
        have:b≠p:=fun w=>by rw[w,a9]at hb;cases hb
        rw[w5 this];exact hb),z.fh,fun b hb n=>by
        have nb:b≠p:=fun w=>by rw[w,a0]at n;exact n rfl
        have:=z.ext.new b hb n
        rwa [w5 nb]at this,z.ext.nf⟩
      have xf:=x.freeze a0 a9 ab
      have s2:Same F' (upd F' p (.lst xs)):=(Same.refl F').put a0
      exact q _ _ _ (Y.lentB hi xf (by rw[w5 a7];exact f2) f3 (f4.mono s2)) (x1.ff.trans xf.ff) (.lst (SqL.of x8) (ra.mono s2))
    .cases e
   .cases e
  .cases e
 .cases e
section
variable {X:Cx}{pos:Pos}
end
end L2
namespace L2
open PySem PySem.Spec PyProof.Rows
section
variable {X:Cx}{v:Expr}{mv:ME}{pos:Pos}
end
theorem us1 {P:List Value->Prop}(h:∀ a,P [a]):∀ us:List Value,us.length=1->P us
 |[a],_=>h a
theorem us2 {P:List Value->Prop}(h:∀ a b,P [a,b]):∀ us:List Value,us.length=2->P us
 |[a,b],_=>h a b
theorem us3 {P:List Value->Prop}(h:∀ a b c,P [a,b,c]):∀ us:List Value,us.length=3->P us
 |[a,b,c],_=>h a b c
end L2
namespace L2
open PySem PySem.Spec PyProof.Rows
noncomputable def insI (a:Int):List Int->List Int
 |[]=>[a]
 |b::r=>if a<=b then a::b::r else b::insI a r
noncomputable def S4:List Int->List Int
 |[]=>[]
 |a::r=>insI a (S4 r)
theorem J6 (a:Int):∀ r,(insI a r).Perm (a::r)
 |[]=>.refl _
 |b::r=>by
  unfold insI
  split
  .exact .refl _
  .exact((J6 a r).cons b).trans (.swap a b r)
theorem U8:∀ ns,(S4 ns).Perm ns
 |[]=>.refl _
 |a::r=>(J6 a _).trans ((U8 r).cons a)
theorem J5 (a:Int):∀ r,r.Pairwise (·<=·)->(insI a r).Pairwise (·<=·)
 |[],_=>List.pairwise_singleton ..
 |b::r,h=>by
  have h':=List.pairwise_cons.mp h
  unfold insI
  split
  .rename_i hab
   refine List.pairwise_cons.mpr ⟨fun x i=>?_,h⟩
   rcases List.mem_cons.mp i with e|i
   .rw[e];exact hab
   .exact Int.le_trans hab (h'.1 x i)
  .rename_i hab
   refine List.pairwise_cons.mpr ⟨fun x i=>?_,J5 a r h'.2⟩
   rcases List.mem_cons.mp ((J6 a r).mem_iff.mp i)with e|i
   .rw[e];omega
   .exact h'.1 x i
theorem V6:∀ ns,(S4 ns).Pairwise (·<=·)
 |[]=>.nil
 |a::r=>J5 a _ (V6 r)
theorem T5:∀{a b:List Int},a.Perm b->a.Pairwise (·<=·)->b.Pairwise (·<=·)->a=b
 |[],b,p,_,_=>(List.Perm.nil_eq p)
 |x::a,[],p,_,_=>absurd p.length_eq (by simp)
 |x::a,y::b,p,ha,hb=>by
  have h1:=List.pairwise_cons.mp ha
  have h2:=List.pairwise_cons.mp hb
  have e:x=y:=by
   have m1:x∈y::b:=p.mem_iff.mp List.mem_cons_self
   have m2:y∈x::a:=p.mem_iff.mpr List.mem_cons_self
   rcases List.mem_cons.mp m1 with e|m1
   .exact e
   .rcases List.mem_cons.mp m2 with e|m2
    .exact e.symm
    .have:=h2.1 x m1
     have:=h1.1 y m2
     omega
  subst e
  rw[T5 ((List.perm_cons x).mp p) h1.2 h2.2]
theorem O6 (ns:List Int):(S4 ns).length=ns.length:=(U8 ns).length_eq
theorem J3:∀{ns:List Int}{its:List Value},Vals (ns.map V.int) its->IntsAre its ns
 |[],_,.nil=>.nil
 |n::ns,_,.cons r t=>by
  obtain⟨k,rfl⟩:=r
  exact .cons n k (J3 t)
theorem E6:∀{ns:List Int}{its:List Value},IntsAre its ns->Vals (ns.map V.int) its
 |[],_,.nil=>.nil
 |n::ns,_,.cons _ k t=>.cons ⟨k,rfl⟩ (E6 t)
section
variable {X:Cx}{e:Expr}{pos:Pos}
noncomputable def rSorted (K:PySem.W.Frag):List V->Hp->VK->Prop:=fun vs H Q=>∃(p:Addr)(ns:List Int),vs=[.ref p]/\SqL K H p (ns.map V.int)/\ns.length<64/\∀ q,H q=none->Q (.ref q) (upd H q (.lst ((S4 ns).map V.int)))
theorem call_sorted:CallR X (.builtin "sorted") (rSorted X.K):=by
 intro pins s σ H xs us Q I r h
 obtain⟨p,ns,rfl,J,j,q⟩:=h
 obtain⟨u,rfl,rx⟩:=M7 r
 cases rx
 obtain⟨its,G,L,U⟩:=I.list J
 have M:its.length=ns.length:=by rw[<-G.length,List.length_map]
 refine sorted_ints L.isList (J3 G) (by rw[M];exact j) fun out i S R O=>?_
 have e:i=S4 ns:=T5 (R.trans (U8 ns).symm) O (V6 ns)
 subst e
 obtain⟨c,N⟩:=sortedAll_at s.heap its out
 refine⟨.ref (s.heap.objs.size+1),_,I.laid (t':=s.toks) (o:=.lst ((S4 ns).map V.int)) (fun b o z=>sortedAll_old z) (Nat.le_succ _) ⟨?_,out.toList,c,E6 S,by simpa using N⟩,rfl,q _ (I.hok.fresh (Nat.le_succ _))⟩
 rw[List.length_map,O6,sizeLine_eq];omega
@[irreducible] noncomputable def S1 (m:ML):ML:=fun ρ=>match m ρ with |some ds=>(match Q4 ds with |some ns=>if ns.length<64 then some ((S4 ns).map .int)else none|none=>none)|none=>none
theorem pf_sorted {p:Pos}{m:ML}(L:Gl X "sorted")(hm:X.mg "sorted"=none)(ha:PB X e m)(I:bootBuiltins "sorted"=some (.builtin "sorted"))(J:starEach (e::[]) X.env=(false,eval e X.env)::starEach [] X.env:=by rfl)(M:starEach [e] X.env=(false,eval e X.env)::starEach [] X.env:=by rfl)(z:(backTo pos (starEach [] X.env)).any (·.1)=false:=by rfl):PF X (.Call (.Name "sorted" p) [e] [] pos) (S1 m):=
 (U4 call_sorted L hm I (b9 ha pa_nil J) (by decide) (by decide) M z).imp fun σ H Q i=>by
  obtain⟨F0,H0,F,ρ,g,G,e,q⟩:=i
  unfold S1 at e
  cases h1:m ρ with
  |none=>simp only[h1]at e;cases e
  |some ds=>
   simp only[h1]at e
   cases h2:Q4 ds with
   |none=>simp only[h2]at e;cases e
   |some ns=>
    simp only[h2]at e
    split at e
    .rename_i h64
     cases e
     refine⟨F0,H0,F,ρ,ds,G,h1,fun p xs F1 H1 j s1 r1=>⟨p,ns,rfl,?_,h64,fun w hw=>?_⟩⟩
     .rw[<-O2 r1 h2];exact s1
     .exact q w _ F1 _ (j.trans (Ext.own j.fh hw)) (j.hh.free hw) (j.fh.free hw) x8 (L3 _)
    .cases e
end
end L2
namespace L2
open PySem PySem.Spec PyProof.Rows
section
variable {X:Cx}{pins:List (Addr×Obj)}{σ:St}
set_option maxHeartbeats 8000000 in
theorem min_loopT {q:Addr}{mk:D->Option D}(hk:KeyAt X (.ref q) mk)(hc:X.calm=true)(hu:X.A.units+64<cLine){l I S:Addr}{xs:List V}{ds:List D}{kw:List (Str×Value)}{dm:D}(Y:I≠S)(ad:l≠I)(ac:l≠S):
  ∀(r j:Nat)(H F H0 F0:Hp)(s:Shared)(xb yb:V)(M N:Value)(db G:D)(c:Nat)(R:Result->Shared->Prop),
   ds.length-(j+1)=r->j+1<=ds.length->Inv X pins σ H s->Ext F0 H0 F H->SqT X.K H l xs->Reps X.K F xs ds->s.heap.IsTupleIter I l (j+1)->s.heap.get? S=some (seqObj "list" #[M,N] c)->FpOk X pins H I->FpOk X pins H S->
   RelV xb M->Rep X.K F xb db->RelV yb N->Rep X.K F yb G->minF mk (ds.drop (j+1)) db G=some dm->
   (∀ x v F' H' s',Inv X pins σ H' s'->RelV x v->Ext F0 H0 F' H'->Rep X.K F' x dm->R (.ok (.ret v)) s')->
   codeAny (model X.prog X.w) X.A (.builtin "min.loop" ⟨[.ref I,.ref q,.ref S],kw⟩) R s:=by
 have L:(toString "min"++toString ".loop":String)="min.loop":=by decide
 intro r
 induction r with
 |zero=>
  intro j H F H0 F0 s xb yb M N db G c R hr hj I' ext sq rs U hS fI fS rb pb ry py hm hR
  have a8:j+1=ds.length:=by omega
  obtain⟨its,vr,pl,_⟩:=I'.tuple sq
  have zl:its.length=ds.length:=by rw[<-vr.length,rs.length]
  rw[a8,List.drop_length]at hm
  have hm:some db=some dm:=hm
  cases hm
  refine codeAny_builtin PySem.F.entry_min_loop ?_
  rw[Around.under_plainId PySem.F.plain_min_loop _]
  show wpAny _ X.A.in1 (seqItems? (.ref S) >>= _) _ _ _
  refine wpAny_bind (wpAny_seqItems hS rfl ?_)
  show wpAny _ X.A.in1 (tryCatch (pyNext (.ref I)) _ >>= _) _ _ _
  refine wpAny_bind (wpAny_tryCatch (wpAny_pyNext_tuple_end (I'.ok.hd hc) U pl (by simp;omega) fun h' a3=>?_))
  have ab:h'.get? S=some (seqObj "list" #[M,N] c):=a3 S _ (Ne.symm Y) hS
  have s1:=Heap.SameBut.update h' S (Obj.mapSeq fun _=>(#[]:Array Value))
  show wpAny _ X.A.in1 (updateSeq S (fun _=>#[]) >>= _) _ _ _
  refine wpAny_bind ?_
  refine wpAny_updateSeq ab rfl (wpAny_bind (wpAny_letGo (wpAny_pure ?_)))
  have I9:Inv X pins σ H { s with heap:=h'.update S (Obj.mapSeq fun _=>(#[]:Array Value)),toks:=s.toks }:=I'.turnedL (fp:=[I,S]) (t':=s.toks) (fun b o i e=>by
   simp only[List.mem_cons,List.not_mem_nil,or_false,not_or]at i
   exact(s1.2 b i.2).trans (a3 b o i.1 e)) (fun b i=>by
   simp only[List.mem_cons,List.not_mem_nil,or_false]at i
   rcases i with rfl|rfl <;> assumption)
  exact hR xb M F H _ I9 rb ext pb
 |succ r ih=>
  intro j H F H0 F0 s xb yb M N db G c R hr hj I' ext sq rs U hS fI fS rb pb ry py hm hR
  have O:j+1<ds.length:=by omega
  obtain⟨its,vr,pl,_⟩:=I'.tuple sq
  have zl:its.length=ds.length:=by rw[<-vr.length,rs.length]
  obtain⟨d,hd⟩:∃ d,ds[j+1]? =some d:=⟨_,List.getElem?_eq_getElem O⟩
  obtain⟨x,hx,px⟩:=rs.get hd
  obtain⟨v,hv,rx⟩:=vr.get hx
  rw[j7 hd]at hm
  unfold minF at hm
  cases hkd:mk d with
  |none=>rw[hkd]at hm;cases hm
  |some kd=>
   rw[hkd]at hm
   dsimp only at hm
   refine codeAny_builtin PySem.F.entry_min_loop ?_
   rw[Around.under_plainId PySem.F.plain_min_loop _]
   show wpAny _ X.A.in1 (seqItems? (.ref S) >>= _) _ _ _
   refine wpAny_bind (wpAny_seqItems hS rfl ?_)
   show wpAny _ X.A.in1 (tryCatch (pyNext (.ref I)) _ >>= _) _ _ _
   refine wpAny_bind (wpAny_tryCatch (wpAny_pyNext_tuple_item U pl (by simpa using hv) fun h1 a5 s1=>?_))
   have I1:Inv X pins σ H { s with heap:=h1,toks:=s.toks }:=I'.turnedL (fp:=[I]) (fun b o i e=>s1.extBut b o (by simpa using i) e) (fun b i=>by rw[List.mem_singleton.mp i];exact fI)
   have aa:h1.get? S=some (seqObj "list" #[M,N] c):=s1.extBut _ _ (Ne.symm Y) hS
   obtain⟨oI,eI,cI,dI⟩:=id a5
   have Ip:=I1.pin2 fI fS eI aa (fun v z=>by rw[dI]at z;cases z) (fun v z=>by cases z)
   show wpAny _ X.A.in1 (tryCatch (holding [v] (call (.ref q) [v])) _ >>= _) _ _ _
   refine wpAny_bind (wpAny_tryCatch (wpAny_holding (wpAny_mono (hk (pins++[(I,oI),(S,seqObj "list" #[M,N] c)]) σ H F _ x v d kd Ip ext.fh px rx hkd) (fun w s2 hw=>?_) fun _ _ z=>z.elim)))
   obtain⟨y,F2,H2,I2,a1,J,a2⟩:=hw
   have pI:=I2.pin (I,oI) (by simp)
   have pS:=I2.pin (S,seqObj "list" #[M,N] c) (by simp)
   have a0:Inv X pins σ H2 s2:=I2.unpinned
   have a7:FpOk X pins H2 I:=fI.now pI.2.1
   have Z:FpOk X pins H2 S:=fS.now pS.2.1
   have a4:s2.heap.IsTupleIter I l (j+1+1):=⟨oI,pI.1,cI,dI⟩
   cases hlt8:ltF 8 kd G with
   |none=>rw[hlt8]at hm;cases hm
   |some bt=>
    rw[hlt8]at hm
    have a6:=lt_at a0 8 (A:=X.A.in1) (by show X.A.units+1+8<cLine;omega) (a2.mono J.fh) ((py.mono J.ff).mono J.fh) a1 ry hlt8
    show wpAny _ X.A.in1 (tryCatch (holding [v,w] (richCompare .Lt w N >>= _)) _ >>= _) _ _ _
    refine wpAny_bind (wpAny_tryCatch (wpAny_holding (wpAny_bind (a6 X.prog X.w _ _ ?_))))
    refine wpAny_bind (wpAny_holding (wpAny_truthy_bool ?_))
    refine wpAny_bind (wpAny_letGo (wpAny_pure ?_))
    cases bt with
    |true=>
     have s3:=Heap.SameBut.update s2.heap S (Obj.mapSeq fun _=>#[v,w])
     obtain⟨c2,a9⟩:∃ c2,(s2.heap.update S (Obj.mapSeq fun _=>#[v,w])).get? S=some (seqObj "list" #[v,w] c2):=⟨_,get?_update_seq pS.1 fun _=>#[v,w]⟩
     simp only[if_true]
     refine wpAny_bind ?_
     refine wpAny_updateSeq pS.1 rfl (wpAny_bind (wpAny_letGo ?_))
     rw[L]
     have I3:Inv X pins σ H2 { s2 with heap:=s2.heap.update S (Obj.mapSeq fun _=>#[v,w]),toks:=s2.toks }:=a0.turnedL (fp:=[S]) (fun b o i e=>(s3.2 b (by simpa using i)).trans e) (fun b i=>by rw[List.mem_singleton.mp i];exact Z)
     refine wpAny_pure ⟨plainId_quiet PySem.F.plain_min_loop _,ih (j+1) H2 F2 H0 F0 _ x y v w d kd c2 R (by omega) O I3 (ext.trans J) (J.hh.seqT sq) (rs.mono J.ff) ⟨oI,(s3.2 I Y).trans pI.1,cI,dI⟩ a9 a7 Z rx (px.mono J.ff) a1 a2 hm hR⟩
    |false=>
     simp only[Bool.false_eq_true,if_false]
     refine wpAny_bind (wpAny_letGo ?_)
     rw[L]
     refine wpAny_pure ⟨plainId_quiet PySem.F.plain_min_loop _,ih (j+1) H2 F2 H0 F0 _ xb yb M N db G c R (by omega) O a0 (ext.trans J) (J.hh.seqT sq) (rs.mono J.ff) a4 pS.1 a7 Z rb (pb.mono J.ff) ry (py.mono J.ff) hm hR⟩
theorem args_min_2k (a b v:Value):argsOk "min" ⟨[a,b],[(Str.ofString "key",v)]⟩:=by unfold argsOk;kernel_rfl
set_option maxHeartbeats 8000000 in
theorem min_topT {q:Addr}{mk:D->Option D}(hk:KeyAt X (.ref q) mk)(hc:X.calm=true)(hu:X.A.units+64<cLine){xs:List V}{ds:List D}{dm:D}{L N:Hp}{j:Shared}{E:Value->Shared->Prop}{Q:Value->Shared->Prop}
  {Y U:Value} (Ib:Inv X pins σ L j) (a4:Same N L) (vb:Vals xs [Y,U]) (a6:Reps X.K N xs ds) (hm:minN mk ds=some dm)
  (hQ:∀ x v F' H' s',Inv X pins σ H' s'->RelV x v->Ext N L F' H'->Rep X.K F' x dm->Q v s'):
  wpAny (model X.prog X.w) X.A (call (.builtin "min") [Y,U] [(Str.ofString "key",.ref q)]) Q E j:=by
 have G:(toString "min"++toString ".loop":String)="min.loop":=by decide
 refine kmk_tree PySem.F.kind_min PySem.F.plain_min PySem.F.entry_min (args_min_2k _ _ _) ?_
 show wpAny _ X.A.in1 (Builtin.Builtins.bindParams "min" ["key","default"] 0 ⟨[],[(Str.ofString "key",.ref q)]⟩ >>= _) _ _ j
 refine wpAny_bind (wpAny_of_eq (show Builtin.Builtins.bindParams "min" ["key","default"] 0 ⟨[],[(Str.ofString "key",.ref q)]⟩=pure [some (.ref q),none]from rfl) ?_)
 have a9:xs.length=2:=vb.length
 have ae:L j.heap.objs.size=none:=Ib.hok.fresh (Nat.le_refl _)
 show wpAny _ X.A.in1 (newTuple [Y,U] >>= _) _ _ j
 refine wpAny_bind (wpAny_newTuple ?_ (by show 2<=sizeLine;rw[sizeLine_eq];decide))
 have I:Inv X pins σ (upd L j.heap.objs.size (.tup xs)) { j with heap:=j.heap.push (seqObj "tuple" #[Y,U] 0),toks:=j.toks }:=Ib.laid (t':=j.toks) (fun b u e=>Heap.get?_push_of_some _ e) (Nat.le_refl _) ⟨by rw[a9,sizeLine_eq];decide,_,vb,⟨_,Heap.get?_push_size _ rfl,rfl,_,rfl⟩⟩
 have xb:Ext N L (upd N j.heap.objs.size (.tup xs)) (upd L j.heap.objs.size (.tup xs)):=Ext.laid a4 ae
 have sf:Same (upd N j.heap.objs.size (.tup xs)) (upd L j.heap.objs.size (.tup xs)):=xb.fh
 have sq:SqT X.K (upd L j.heap.objs.size (.tup xs)) j.heap.objs.size xs:=SqT.of x8
 have rs:Reps X.K (upd N j.heap.objs.size (.tup xs)) xs ds:=a6.mono xb.ff
 have hQ:∀ x v F' H' s',Inv X pins σ H' s'->RelV x v->Ext (upd N j.heap.objs.size (.tup xs)) (upd L j.heap.objs.size (.tup xs)) F' H'->Rep X.K F' x dm->Q v s':=fun x v F' H' s' a b c d=>hQ x v F' H' s' a b (xb.trans c) d
 generalize upd N j.heap.objs.size (.tup xs)=F at*
 generalize upd L j.heap.objs.size (.tup xs)=H at*
 show wpAny _ X.A.in1 (pyIter (.ref j.heap.objs.size) >>= _) _ _ { j with heap:=j.heap.push (seqObj "tuple" #[Y,U] 0),toks:=j.toks }
 generalize j.heap.objs.size=l at*
 generalize ({ j with heap:=j.heap.push (seqObj "tuple" #[Y,U] 0),toks:=j.toks }:Shared)=s at*
 obtain⟨its,vr,pl,_⟩:=I.tuple sq
 have a0:=pl
 obtain⟨ol,aa,_⟩:=id a0
 have a1:l<s.heap.objs.size:=Heap.lt_size aa
 refine wpAny_bind (wpAny_pyIter_tuple a0 ?_)
 refine wpAny_bind (wpAny_newList ?_ (Nat.zero_le _))
 rw[G]
 refine wpAny_pure ⟨plainId_quiet PySem.F.plain_min_loop _,?_⟩
 generalize O:({ cls:=.type "tuple_iterator",data:=.fields #[.ref l,.int 0 0] }:Obj)=oI0
 have hS:(s.heap.push oI0).objs.size=s.heap.objs.size+1:=size_push' ..
 have ac:l≠s.heap.objs.size:=Nat.ne_of_lt a1
 have ab:l≠(s.heap.push oI0).objs.size:=by rw[hS];exact Nat.ne_of_lt (Nat.lt_succ_of_lt a1)
 have R:s.heap.objs.size≠(s.heap.push oI0).objs.size:=by rw[hS];exact Nat.ne_of_lt (Nat.lt_succ_self _)
 have gI:((s.heap.push oI0).push (seqObj "list" #[] 0)).get? s.heap.objs.size=some oI0:=Heap.get?_push_of_some _ (Heap.get?_push_size _ (by rw[<-O];rfl))
 have gS:((s.heap.push oI0).push (seqObj "list" #[] 0)).get? (s.heap.push oI0).objs.size=some (seqObj "list" #[] 0):=Heap.get?_push_size _ rfl
 have fI:FpOk X pins H s.heap.objs.size:=I.fpOk (Nat.le_refl _) (I.hok.fresh (Nat.le_refl _))
 have fS:FpOk X pins H (s.heap.push oI0).objs.size:=I.fpOk (by rw[hS];exact Nat.le_succ _) (I.hok.fresh (by rw[hS];exact Nat.le_succ _))
 have I0:Inv X pins σ H { s with heap:=(s.heap.push oI0).push (seqObj "list" #[] 0),toks:=s.toks }:=I.turnedL (fp:=[]) (fun b o _ e=>Heap.get?_push_of_some _ (Heap.get?_push_of_some _ e)) (fun b M=>by cases M)
 generalize (s.heap.push oI0).objs.size=S at*
 generalize hI:s.heap.objs.size=J at*
 generalize (s.heap.push oI0).push (seqObj "list" #[] 0)=h0 at*
 have ad:h0.IsTupleIter J l 0:=⟨_,gI,by rw[<-O],by rw[<-O];rfl⟩
 have zl:its.length=ds.length:=by rw[<-vr.length,rs.length]
 obtain⟨its',Z,a8,_⟩:=I0.tuple sq
 have aj:its'.length=ds.length:=by rw[<-Z.length,rs.length]
 refine codeAny_builtin PySem.F.entry_min_loop ?_
 rw[Around.under_plainId PySem.F.plain_min_loop _]
 show wpAny _ X.A.in1 (seqItems? (.ref S) >>= _) _ _ _
 refine wpAny_bind (wpAny_seqItems gS rfl ?_)
 show wpAny _ X.A.in1 (tryCatch (pyNext (.ref J)) _ >>= _) _ _ _
 cases ds with
 |nil=>cases hm
 |cons d ds=>
  obtain⟨x,hx,px⟩:=rs.get (i:=0) (d:=d) rfl
  obtain⟨v,hv,rx⟩:=Z.get hx
  unfold minN at hm
  dsimp only at hm
  cases hkd:mk d with
  |none=>rw[hkd]at hm;cases hm
  |some kd=>
   rw[hkd]at hm
   dsimp only at hm
   refine wpAny_bind (wpAny_tryCatch (wpAny_pyNext_tuple_item ad a8 (by simpa using hv) fun h1 a2 s1=>?_))
   have I1:=I0.turnedL (h':=h1) (t':=s.toks) (fp:=[J]) (fun b o M e=>s1.extBut b o (by simpa using M) e) (fun b M=>by rw[List.mem_singleton.mp M];exact fI)
   have ag:h1.get? S=some (seqObj "list" #[] 0):=s1.extBut _ _ (Ne.symm R) gS
   obtain⟨oI,eI,cI,dI⟩:=id a2
   have Ip:=I1.pin2 fI fS eI ag (fun v z=>by rw[dI]at z;cases z) (fun v z=>by cases z)
   show wpAny _ X.A.in1 (tryCatch (holding [v] (call (.ref q) [v])) _ >>= _) _ _ _
   refine wpAny_bind (wpAny_tryCatch (wpAny_holding (wpAny_mono (hk (pins++[(J,oI),(S,seqObj "list" #[] 0)]) σ H F _ x v d kd Ip sf px rx hkd) (fun w s2 hw=>?_) fun _ _ z=>z.elim)))
   obtain⟨y,F2,H2,I2,a5,x2,a7⟩:=hw
   have pI:=I2.pin (J,oI) (by simp)
   have pS:=I2.pin (S,seqObj "list" #[] 0) (by simp)
   have ai:Inv X pins σ H2 s2:=I2.unpinned
   have ah:FpOk X pins H2 J:=fI.now pI.2.1
   have a3:FpOk X pins H2 S:=fS.now pS.2.1
   have s3:=Heap.SameBut.update s2.heap S (Obj.mapSeq fun _=>#[v,w])
   obtain⟨c2,af⟩:∃ c2,(s2.heap.update S (Obj.mapSeq fun _=>#[v,w])).get? S=some (seqObj "list" #[v,w] c2):=⟨_,get?_update_seq pS.1 fun _=>#[v,w]⟩
   show wpAny _ X.A.in1 (updateSeq S (fun _=>#[v,w]) >>= _) _ _ _
   refine wpAny_bind (wpAny_updateSeq pS.1 rfl ?_)
   rw[G]
   have I3:Inv X pins σ H2 { s2 with heap:=s2.heap.update S (Obj.mapSeq fun _=>#[v,w]),toks:=s2.toks }:=ai.turnedL (fp:=[S]) (fun b o M e=>(s3.2 b (by simpa using M)).trans e) (fun b M=>by rw[List.mem_singleton.mp M];exact a3)
   refine wpAny_pure ⟨plainId_quiet PySem.F.plain_min_loop _,min_loopT hk hc hu (ds:=d::ds) (dm:=dm) R ac ab _ 0 H2 F2 H F _ x y v w d kd c2 _ rfl (by simp) I3 x2 (x2.hh.seqT sq) (rs.mono x2.ff) ⟨oI,(s3.2 J R).trans pI.1,cI,dI⟩ af ah a3 rx (px.mono x2.ff) a5 a7 hm fun x v F' H' s' a b c d=>hQ x v F' H' s' a b c d⟩
@[irreducible] noncomputable def K9 (mk:D->Option D)(m:ML):ME:=fun ρ=>(m ρ).bind fun ds=>minN mk ds
theorem mmin2K_ev {mk:D->Option D}{m:ML}{ρ:Ro}{ds:List D}(h1:m ρ=some ds):K9 mk m ρ=minN mk ds:=by
 unfold K9
 rw[h1];rfl
theorem pd_min2K {q:Addr}{mk:D->Option D}{x:Str}{p R kp pos:Pos}{e1 e2:Expr}{m:ML}(hk:KeyAt X (.ref q) mk)(hc:X.calm=true)(hu:X.A.units+64<cLine)(hg:Gl X "min")(hm:X.mg "min"=none)(M:Gl X x)(J:X.mg x=some (.ref q))(ha:PAs X [e1,e2] m)(hl:∀ ρ ds,m ρ=some ds->ds.length=2)
  (N:(x==("__debug__":Str))=false:=by decide) (S:starEach [e1,e2] X.env=(false,eval e1 X.env)::starEach [e2] X.env:=by rfl) (G:(backTo pos (starEach [e2] X.env)).any (·.1)=false:=by rfl):
  PD X (.Call (.Name "min" p) [e1,e2] [⟨some "key",.Name x R,kp⟩] pos) (K9 mk m):=by
 intro pins s σ H Q I h
 obtain⟨F0,H0,F,ρ,g,Z,em,q0⟩:=h
 unfold K9 at em
 cases h1:m ρ with
 |none=>rw[h1]at em;cases em
 |some ds=>
  rw[h1,Option.bind_some]at em
  refine wpAny_Call_Name_kw (X2 I hg hm PyProof.Rows.boot_min ?_ (by decide) (by decide))
  have A:=ha pos pins s σ H (fun vs H1=>∃ F1,Ext F H F1 H1/\Reps X.K F1 vs ds) I ⟨F0,H0,F,ρ,ds,Z,h1,fun vs F1 H1 j r1=>⟨F1,j,r1⟩⟩
  refine callWith_kw (thn A fun us s1 i=>?_) (by rw[S];rfl) (by rw[S];show ((false,eval e1 X.env)::backTo pos (starEach [e2] X.env)).any (·.1)=false;rw[List.any_cons,G];rfl)
  obtain⟨vs,H1,I1,r1,F1,j,O⟩:=i
  have B:=L8 (nm:=some "key") (kpos:=kp) (pe_glob (v:=.ref q) (pos:=R) M J rfl N) pk_nil pos pins s1 σ H1 (fun vs H2=>vs=[.ref q]/\H2=H1) I1 ⟨rfl,rfl⟩
  refine thn B fun Y s2 i=>?_
  obtain⟨ws,H2,I2,r2,ev,eH⟩:=i
  subst ev eH
  obtain⟨w1,rfl,z⟩:=M7 r2
  cases z
  have L:us.length=2:=by rw[<-r1.length,O.length,hl ρ ds h1]
  match us,L,r1 with
  |[u1,u2],_,r1=>exact min_topT hk hc hu I2 j.fh r1 O em fun x v F' H' s' I' rx U px=>⟨x,H',I',rx,q0 x F' H' (j.trans U) px⟩
end
end L2
namespace L2
open PySem PySem.Spec PyProof.Rows
inductive RPs (K:PySem.W.Frag)(F H:Hp):List Addr->List (List D)->Prop
 |nil:RPs K F H [] []
 |cons {q:Addr} {xs:List V} {ds:List D} {qs:List Addr} {dss:List (List D)}:H q=some (.lst xs)->Reps K F xs ds->RPs K F H qs dss->RPs K F H (q::qs) (ds::dss)
section
variable {K:PySem.W.Frag}{F H F' H':Hp}
theorem RPs.mono (e:Same F F')(k:Same H H'):∀{qs:List Addr}{dss:List (List D)},RPs K F H qs dss->RPs K F' H' qs dss
 |_,_,.nil=>.nil
 |_,_,.cons h r t=>.cons (k _ _ h) (r.mono e) (RPs.mono e k t)
theorem RPs.keep (e:Same F F'):∀{qs:List Addr}{dss:List (List D)},(∀ q∈qs,∀ o,H q=some o->H' q=some o)->RPs K F H qs dss->RPs K F' H' qs dss
 |_,_,_,.nil=>.nil
 |_,_,k,.cons h r t=>.cons (k _ List.mem_cons_self _ h) (r.mono e) (RPs.keep e (fun q i=>k q (List.mem_cons_of_mem _ i)) t)
theorem RPs.snoc {q:Addr}{xs:List V}{ds:List D}(h:H q=some (.lst xs))(r:Reps K F xs ds):∀{qs:List Addr}{dss:List (List D)},RPs K F H qs dss->RPs K F H (qs++[q]) (dss++[ds])
 |_,_,.nil=>.cons h r .nil
 |_,_,.cons a b t=>.cons a b (RPs.snoc h r t)
theorem RPs.length:∀{qs:List Addr}{dss:List (List D)},RPs K F H qs dss->qs.length=dss.length
 |_,_,.nil=>rfl
 |_,_,.cons _ _ t=>congrArg (·+1) (RPs.length t)
theorem RPs.get:∀{qs:List Addr}{dss:List (List D)}{i:Nat}{ds:List D},RPs K F H qs dss->dss[i]? =some ds->∃ q xs,qs[i]? =some q/\H q=some (.lst xs)/\Reps K F xs ds
 |_,_,_,_,.nil,e=>by simp at e
 |_,_,0,_,.cons a b _,e=>by simp at e;subst e;exact⟨_,_,rfl,a,b⟩
 |_,_,i+1,ds,.cons _ _ t,e=>by
  obtain⟨q,xs,h1,h2⟩:=RPs.get (i:=i) (ds:=ds) t (by simpa using e)
  exact⟨q,xs,by simpa using h1,h2⟩
theorem RPs.some:∀{qs:List Addr}{dss:List (List D)},RPs K F H qs dss->∀ q∈qs,∃ o,H q=some o
 |_,_,.cons a _ t,q,i=>by
  rcases List.mem_cons.mp i with e|i
  .rw[e];exact⟨_,a⟩
  .exact RPs.some t q i
end
noncomputable abbrev MP:=Ro->Option (List (List D))
structure Pots (K:PySem.W.Frag)(H F' H':Hp)(p:Addr)(qs:List Addr)(dss:List (List D)):Prop where
 hp:H p=none
 fp:F' p=none
 at':H' p=some (.lst (qs.map V.ref))
 new:∀ q∈qs,H q=none/\F' q=none
 nd:(p::qs).Nodup
 rep:RPs K F' H' qs dss
noncomputable def TPt (K:PySem.W.Frag)(m:MP):TE:=fun σ H Q=>∃ F0 H0 F ρ dss,Rl K F0 H0 F H σ ρ/\m ρ=some dss/\∀ p qs F' H',Ext F H F' H'->Pots K H F' H' p qs dss->Q (.ref p) H'
noncomputable def PP (X:Cx)(e:Expr)(m:MP):Prop:=PE X e (TPt X.K m)
theorem Ext.stays {F H F' H':Hp}{p:Addr}{o:HO}(x:Ext F H F' H')(j:F p=none)(i:H p=some o):F' p=none:=by
 cases q:F' p with
 |none=>rfl
 |some u=>have:=x.new p j (by rw[q];simp);rw[this]at i;cases i
section
variable {X:Cx}{a b c e:Expr}{pos:Pos}
noncomputable def mlst1 (m:ML):MP:=fun ρ=>(m ρ).map fun ds=>[ds]
theorem pp_lst1 {m:ML}(ha:PF X a m)(N:starEach (a::[]) X.env=(false,eval a X.env)::starEach [] X.env:=by rfl):PP X (.List [a] pos) (mlst1 m):=(pe_lst (b9 ha pa_nil N)).imp fun σ H Q i=>by
 obtain⟨F0,H0,F,ρ,dss,L,e,q⟩:=i
 unfold mlst1 at e
 cases h1:m ρ with
 |none=>rw[h1]at e;cases e
 |some ds=>
  rw[h1]at e;cases e
  refine⟨F0,H0,F,ρ,ds,L,h1,fun w xs F1 H1 G hw O I J=>⟨by show 1<=sizeLine;rw[sizeLine_eq];decide,fun p hp=>?_⟩⟩
  have j:w≠p:=fun z=>by rw[z,hp]at I;cases I
  refine q p [w] F1 _ (G.trans (Ext.own G.fh hp)) ⟨G.hh.free hp,G.fh.free hp,x8,fun z M=>?_,?_,.cons (by rw[w5 j];exact I) J .nil⟩
  .rw[List.mem_singleton.mp M];exact⟨hw,O⟩
  .simp only[List.nodup_cons,List.mem_singleton,List.not_mem_nil,not_false_eq_true,List.nodup_nil,and_true]
   exact fun z=>j z.symm
noncomputable def compP (g:Tg)(elt:ML):List D->Ro->List (List D)->Option (List (List D))
 |[],_,acc=>some acc
 |it::its,ρ,acc=>match tgD g it ρ with
  |some ρ1=>(match elt ρ1 with
   |some ds=>if acc.length<sizeLine then compP g elt its ρ1 (acc++[ds])else none
   |none=>none)
  |none=>none
noncomputable def D5 (src:List (Option Nat))(mi:ML)(g:Tg)(elt:ML):MP:=fun ρ=>(mi ρ).bind fun its=>compP g elt its (d5 src ρ) []
theorem comp_tp {K:PySem.W.Frag}{src:List (Option Nat)}{mi:ML}{g:Tg}{S:ML}{σ:St}{H:Hp}{Q:VK}(h:TPt K (D5 src mi g S) σ H Q):M8 src (TId K mi) (TGd K g) (TC K cyes) (TF K S) σ H Q:=by
 obtain⟨F0,H0,F,ρ,out,rl,e,q⟩:=h
 unfold D5 at e
 cases h1:mi ρ with
 |none=>rw[h1]at e;cases e
 |some its=>
  rw[h1]at e
  have e:compP g S its (d5 src ρ) []=some out:=e
  refine⟨F0,H0,F,ρ,its,rl,h1,fun J F1 H1 x1 I=>?_⟩
  intro p hp
  obtain⟨rb,no⟩:=(rl.go x1).blk src
  have aa:F1 p=none:=x1.fh.free hp
  refine⟨fun i m a6 H'=>∃ F' ρ' acc qs,Rl K F1 H1 F' H' a6 ρ'/\NoOwn ρ'/\H' p=some (.lst (qs.map V.ref))/\F' p=none/\RPs K F' H' qs acc/\(∀ w∈qs,H1 w=none/\F' w=none)/\(p::qs).Nodup/\i<=its.length/\m=its.length-i/\compP g S (its.drop i) ρ' acc=some out,
   ⟨_,F1,d5 src ρ,[],[],rb.other no hp aa,no,x8,aa,.nil,(fun w hw=>by cases hw),by simp,Nat.zero_le _,rfl,e⟩,?_⟩
  rintro i m a6 H' ⟨F',ρ',acc,qs,j,ad,Y,a4,ra,L,a2,aj,rfl,G⟩
  by_cases a3:i<its.length
  .right
   have hd:=List.getElem?_eq_getElem a3
   refine⟨I.go i F' H' j.ext.ff j.fh a3,fun a5 H2=>∃ F2 U M R,Rl K F1 H1 F2 H2 a5 U/\NoOwn U/\H2 p=some (.lst (R.map V.ref))/\F2 p=none/\RPs K F2 H2 R M/\(∀ w∈R,H1 w=none/\F2 w=none)/\(p::R).Nodup/\compP g S (its.drop (i+1)) U M=some out,?_,fun x H2 y=>?_⟩
   .rintro a5 H2 ⟨F2,U,M,R,b1,b2,b3,b4,b5,b6,b7,b8⟩
    exact⟨its.length-(i+1),by omega,F2,U,M,R,b1,b2,b3,b4,b5,b6,b7,a3,rfl,b8⟩
   .obtain⟨F2,x2,r2⟩:=I.yld i F' H' x H2 _ j.ext.ff j.fh hd y
    rw[j7 hd]at G
    unfold compP at G
    cases h2:tgD g its[i] ρ' with
    |none=>simp only[h2]at G;cases G
    |some ρ1=>
     simp only[h2]at G
     refine⟨F1,H1,F2,ρ',_,ρ1,j.go x2,r2,h2,fun F3 H3 ai Z x3=>?_⟩
     have a7:=ad.tg h2
     have ab:=x2.trans x3
     refine⟨F1,H1,F3,ρ1,true,Z,rfl,fun F4 H4 x4=>iteT ?_⟩
     have a0:=ab.trans x4
     cases h4:S ρ1 with
     |none=>simp only[h4]at G;cases G
     |some ds=>
      simp only[h4]at G
      split at G
      .rename_i hz
       refine⟨F1,H1,F4,ρ1,ds,Z.go x4,h4,fun w xs F5 H5 x5 hw ag af r5=>?_⟩
       have O:=a0.trans x5
       have ah:=O.hh _ _ Y
       have a8:w≠p:=fun z=>by rw[z,a0.hh _ _ Y]at hw;cases hw
       have ac:RPs K F5 H5 qs acc:=ra.mono O.ff O.hh
       have ae:w∉qs:=fun z=>by
        obtain⟨o,ho⟩:=ra.some w z
        rw[a0.hh _ _ ho]at hw;cases hw
       refine⟨qs.map V.ref,ah,by rw[List.length_map,ra.length];exact hz,F5,ρ1,acc++[ds],qs++[w],((Z.go x4).go x5).other a7 hp (O.stays a4 Y),a7,by rw[x8,List.map_append];rfl,O.stays a4 Y,?_,fun z a1=>?_,?_,G⟩
       .refine((ac.snoc af r5)).keep (Same.refl _) fun z a1 o ho=>?_
        have:z≠p:=by
         rcases List.mem_append.mp a1 with N|N
         .exact fun zz=>(List.nodup_cons.mp a2).1 (zz ▸ N)
         .rw[List.mem_singleton.mp N];exact a8
        rw[w5 this];exact ho
       .rcases List.mem_append.mp a1 with N|N
        .obtain⟨o,ho⟩:=ra.some z N
         exact⟨(L z N).1,O.stays (L z N).2 ho⟩
        .rw[List.mem_singleton.mp N]
         exact⟨(Z.go x4).ext.hh.free hw,ag⟩
       .have hn:=List.nodup_cons.mp a2
        refine List.nodup_cons.mpr ⟨fun z=>?_,List.nodup_append.mpr ⟨hn.2,by simp,fun a ha b hb=>?_⟩⟩
        .rcases List.mem_append.mp z with N|N
         .exact hn.1 N
         .exact a8 (List.mem_singleton.mp N).symm
        .rw[List.mem_singleton.mp hb];exact fun zz=>ae (zz ▸ ha)
      .cases G
  .left
   have a9:i=its.length:=by omega
   subst a9
   rw[List.drop_length]at G
   have G:some acc=some out:=G
   cases G
   exact⟨I.stop F' H' j.ext.ff j.fh,q p qs F' H' (x1.trans j.ext) ⟨x1.hh.free hp,a4,Y,fun w hw=>⟨x1.hh.free (L w hw).1,(L w hw).2⟩,a2,ra⟩⟩
theorem pp_comp {sc:Scope}{N:List Str}{src:List (Option Nat)}{tg i iter:Expr}{q:ML}{g:Tg}{j:ML}(B:Blk X sc N src)(J:X.calm=true)
  (hi:PId X tg iter q) (G:∀ C fp s H,PGd (c6 X sc C N fp s H) tg g) (I:∀ C fp s H,PF (c6 X sc C N fp s H) i j)
  (z:∀ x,foldedSetIterable iter X.env x=pure x:=by intro _;rfl):
  PP X (.ListComp i [⟨tg,iter,[],0⟩] sc pos) (D5 src q g j):=(pe_comp (g:=TGd X.K g) (tc:=TC X.K cyes) (te:=TF X.K j) B J hi (fun C fp s H=>G C fp s H) (fun C fp s H=>g8) (fun C fp s H=>I C fp s H) z).imp fun _ _ _ h=>comp_tp h
end
noncomputable abbrev MFP:=List D->Option (List (List D))
noncomputable def spP (K:PySem.W.Frag)(n:Nat)(m:MFP):Sp:=fun vs H Q _=>vs.length=n/\∃ F ds dss,Same F H/\Reps K F vs ds/\m ds=some dss/\∀ p qs F' H',Ext F H F' H'->Pots K H F' H' p qs dss->Q (.ref p) H'
noncomputable def runP (n:Nat)(c:MB)(m1 m2:MP):MFP:=fun ds=>match c (p9 n ds)with
 |some true=>m1 (p9 n ds)
 |some false=>m2 (p9 n ds)
 |none=>none
theorem Fun.okP {P:Program}{w:World}{K:PySem.W.Frag}{mg:Str->Option Value}{base:Heap}{x qual:Str}{st:Stmt}{f:Addr}{fd:FuncData}{N ps:List Str}{k:Nat}{c e1 e2:Expr}{S p2 R:Pos}{cc:MB}{m1 m2:MP}(Z:Fun K x qual st f fd)(Y:FnScope N ps (y6 st))
  (J:v7 st=[.If c [.Return (some e1) S] [] p2,.Return (some e2) R])
  (U:∀(cdv:Value)(A:Around)(outer:List Env)(s:Shared)(H:Hp)(E:XK),Room k (A.deeper (envOfC qual (y6 st) s.heap.objs.size f cdv))->PC' (cxOf CX0 P w K mg base N qual (y6 st) f cdv A outer s H E).nox c cc)
  (h1:∀(cdv:Value)(A:Around)(outer:List Env)(s:Shared)(H:Hp)(E:XK),Room k (A.deeper (envOfC qual (y6 st) s.heap.objs.size f cdv))->PP (cxOf CX0 P w K mg base N qual (y6 st) f cdv A outer s H E).nox e1 m1)
  (h2:∀(cdv:Value)(A:Around)(outer:List Env)(s:Shared)(H:Hp)(E:XK),Room k (A.deeper (envOfC qual (y6 st) s.heap.objs.size f cdv))->PP (cxOf CX0 P w K mg base N qual (y6 st) f cdv A outer s H E).nox e2 m2):
  FnOk P w K mg base CX0 (k+1) f fd ps (spP K ps.length (runP N.length cc m1 m2)):=by
 refine Z.ok Y (fun vs H Q E h=>h.1) fun cdv A outer s H vs Q E L h=>?_
 obtain⟨hl,F,ds,dss,M,O,e,ok⟩:=h
 rw[J]
 refine⟨_,pss_cons (ps_if (U cdv A outer s H E L) (pss_one (ps_ret (h1 cdv A outer s H E L))) pss_nil) (pss_one (ps_ret (h2 cdv A outer s H E L))),?_⟩
 have I:=rl_start (N:=N) M O
 unfold runP at e
 cases q:cc (p9 N.length ds)with
 |none=>simp only[q]at e;cases e
 |some b=>
  simp only[q]at e
  refine⟨F,H,F,p9 N.length ds,b,I,q,fun F1 H1 i=>?_⟩
  cases b with
  |true=>
   refine iteT ⟨F,H,F1,_,dss,I.go i,e,fun p qs F2 H2 G pt=>?_⟩
   exact ok p qs F2 H2 (i.trans G) ⟨i.hh.free pt.hp,pt.fp,pt.at',fun z j=>⟨i.hh.free (pt.new z j).1,(pt.new z j).2⟩,pt.nd,pt.rep⟩
  |false=>
   refine iteF ⟨F,H,F1,_,dss,I.go i,e,fun p qs F2 H2 G pt=>?_⟩
   exact ok p qs F2 H2 (i.trans G) ⟨i.hh.free pt.hp,pt.fp,pt.at',fun z j=>⟨i.hh.free (pt.new z j).1,(pt.new z j).2⟩,pt.nd,pt.rep⟩
end L2
namespace L2
open PySem PySem.Spec PyProof.Rows
noncomputable def Hx (H0 H1:Hp)(A:List Addr):Hp:=fun b=>if b∈A then H1 b else H0 b
theorem Hx_in {H0 H1:Hp}{A:List Addr}{b:Addr}(h:b∈A):Hx H0 H1 A b=H1 b:=if_pos h
theorem N0 {H0 H1:Hp}{A:List Addr}{b:Addr}(h:b∉A):Hx H0 H1 A b=H0 b:=if_neg h
theorem Ext.less {F0 H0 H0' F H:Hp}(s:Same H0 H0')(x:Ext F0 H0' F H):Ext F0 H0 F H:=⟨x.ff,s.trans x.hh,x.fh,fun b e n=>s.free (x.new b e n),x.nf⟩
section
variable {K:PySem.W.Frag}{F0 H0 H0' F H:Hp}{σ:St}{ρ:Ro}
theorem Rl.less (s:Same H0 H0')(r:Rl K F0 H0' F H σ ρ):Rl K F0 H0 F H σ ρ where
 ext:=r.ext.less s
 len:=r.len
 sh:=r.sh
 own:=fun i ds h=>let ⟨p,xs,a,b,c,d,z⟩:=r.own i ds h;⟨p,xs,a,b,c,d,s.free z⟩
 inj:=r.inj
 ob:=fun i p ds h=>let ⟨a,b,c,d⟩:=r.ob i p ds h;⟨a,b,s.free c,d⟩
 obn:=r.obn
 ob1:=r.ob1
theorem okO.less {G:Hp}{I:Ends}(s:Same H0 H0'):∀{o:Out},okO K F0 H0 G I o->okO K F0 H0' G I o
 | .nx _,h=>fun F H σ z q=>h F H σ (z.less s) q
 | .bk _,h=>fun F H σ z q=>h F H σ (z.less s) q
 | .ct _,h=>fun F H σ z q=>h F H σ (z.less s) q
 | .rt _,h=>fun v F H x r=>h v F H (x.less s) r
 | .rf _,h=>fun p xs F H x a b c d=>h p xs F H (x.less s) (s.free a) b c d
 | .rp _ _,h=>fun t v p xs F H x a b c d e f g i j=>h t v p xs F H (x.less s) (s.free a) (s.free b) c d e f g i j
 | .rg _ _ _,h=>fun v F H xs x a b c d=>h v F H xs (x.less s) a b c d
 | .rgf _ _ _,h=>fun q ys F H xs x a b c d e f g i=>h q ys F H xs (x.less s) (s.free a) b c d e f g i
end
noncomputable def forP (j:Nat)(body:MS):List (List D)->MS
 |[],ρ=>some (.nx ρ)
 |ds::dss,ρ=>match body (ρ.set j (some (.own ds)))with
  |some (.nx ρ2)=>forP j body dss ρ2
  |some (.ct ρ2)=>forP j body dss ρ2
  |some (.bk ρ2)=>some (.nx ρ2)
  |o=>o
noncomputable def mforP (mi:MP)(j:Nat)(body:MS):MS:=fun ρ=>(mi ρ).bind fun dss=>forP j body dss ρ
section
variable {X:Cx}{a b c e:Expr}{pos:Pos}{st:Stmt}
theorem psd_forP {iter:Expr}{body:List Stmt}{mi:MP}{j:Nat}{x:Str}{pos':Pos}{mb:MS}(hp:PassesOwn (model X.prog X.w) X.A X.env X.xe)(hc:X.calm=true)(hi:PP X iter mi)(hg:PG X (.Name x pos') (V7 j))(J:PSsd X body mb)
  (hs:∀ x,foldedSetIterable iter X.env x=pure x:=by intro _;rfl):PSd X (.For (.Name x pos') iter body [] pos) (mforP mi j mb):=(ps_for hp hc (pi_list hi) hg J hs).imp fun Dn σ H af=>by
 obtain⟨F0,H0,F,ρ,o,Z,e,ok⟩:=af
 unfold mforP at e
 cases h1:mi ρ with
 |none=>rw[h1]at e;cases e
 |some dss=>
  rw[h1]at e
  have e:forP j mb dss ρ=some o:=e
  refine⟨F0,H0,F,ρ,dss,Z,h1,fun p qs F1 H1 x1 pt=>?_⟩
  have pn:=List.nodup_cons.mp pt.nd
  have ai:H0 p=none:=Z.ext.hh.free pt.hp
  have a8:∀ q∈qs,H0 q=none:=fun q hq=>Z.ext.hh.free (pt.new q hq).1
  have ar:∀ q∈qs,F0 q=none:=fun q hq=>(Z.ext.ff.trans x1.ff).free (pt.new q hq).2
  have Y:∀ A:List Addr,(∀ b∈A,b=p\/b∈qs)->Same H0 (Hx H0 H1 A):=fun A hA b u e=>by
   by_cases J:b∈A
   .rcases hA b J with z|z
    .rw[z,ai]at e;cases e
    .rw[a8 b z]at e;cases e
   .rw[N0 J];exact e
  have sub:∀ i,∀ b∈p::qs.drop i,b=p\/b∈qs:=fun i b J=>by
   rcases List.mem_cons.mp J with z|z
   .exact .inl z
   .exact .inr (List.mem_of_mem_drop z)
  have sl:∃ xs,SqL X.K H1 p xs:=⟨_,SqL.of pt.at'⟩
  refine⟨p,rfl,sl,?_⟩
  have G:=Z.go x1
  have am:Rl X.K F0 (Hx H0 H1 (p::qs.drop 0)) F1 H1 σ ρ:=by
   have fr:∀ b∈p::qs.drop 0,H b=none/\F1 b=none:=fun b J=>by
    rcases sub 0 b J with z|z
    .rw[z];exact⟨pt.hp,pt.fp⟩
    .exact pt.new b z
   have aa:∀ b u,H b=some u->b∉p::qs.drop 0:=fun b u e J=>by rw[(fr b J).1]at e;cases e
   refine⟨⟨G.ext.ff,fun b u e=>?_,G.ext.fh,fun b e n=>?_,G.ext.nf⟩,G.len,G.sh,fun i ds h=>?_,G.inj,fun i w ds h=>?_,G.obn,G.ob1⟩
   .by_cases J:b∈p::qs.drop 0
    .rw[Hx_in J]at e;exact e
    .rw[N0 J]at e;exact G.ext.hh b u e
   .have nb:b∉p::qs.drop 0:=fun J=>n (fr b J).2
    rw[N0 nb];exact G.ext.new b e n
   .obtain⟨w,xs,a1,a2,a3,a4,a5⟩:=Z.own i ds h
    obtain⟨w',aj,b1,b2,b3,b4,b5⟩:=G.own i ds h
    rw[a1]at b1;cases b1
    exact⟨w,aj,a1,b2,b3,b4,by rw[N0 (aa _ _ a3)];exact b5⟩
   .obtain⟨a1,a2,a3,xs,a4,a5⟩:=Z.ob i w ds h
    obtain⟨b1,b2,b3,b4⟩:=G.ob i w ds h
    exact⟨b1,b2,by rw[N0 (aa _ _ a4)];exact b3,b4⟩
  have hn:qs.length=dss.length:=pt.rep.length
  refine⟨fun i m U H'=>∃ F' ρ',Rl X.K F0 (Hx H0 H1 (p::qs.drop i)) F' H' U ρ'/\Same F1 F'/\i<=dss.length/\m=dss.length-i/\forP j mb (dss.drop i) ρ'=some o,⟨_,F1,ρ,am,Same.refl _,Nat.zero_le _,rfl,e⟩,?_⟩
  rintro i m U H' ⟨F',ρ',M,sf,as,rfl,L⟩
  have a7:H' p=some (.lst (qs.map V.ref)):=M.ext.hh p _ (by rw[Hx_in List.mem_cons_self];exact pt.at')
  by_cases ag:i<dss.length
  .right
   have hd:=List.getElem?_eq_getElem ag
   obtain⟨q,xs,hq,a6,aq⟩:=pt.rep.get hd
   have a0:q∈qs:=List.mem_of_getElem? hq
   have O:qs.drop i=q::qs.drop (i+1):=j7 hq
   have ad:H' q=some (.lst xs):=M.ext.hh q _ (by rw[Hx_in (by rw[O];simp)];exact a6)
   have ae:F' q=none:=by
    cases z:F' q with
    |none=>rfl
    |some u=>
     have:=M.ext.new q (ar q a0) (by rw[z];simp)
     rw[Hx_in (by rw[O];simp),a6]at this;cases this
   have ac:(qs.map V.ref)[i]? =some (V.ref q):=by rw[List.getElem?_map,hq];rfl
   refine⟨⟨_,_,SqL.of a7,ac⟩,fun a9 H2=>∃ F2 I,Rl X.K F0 (Hx H0 H1 (p::qs.drop (i+1))) F2 H2 a9 I/\Same F1 F2/\forP j mb (dss.drop (i+1)) I=some o,?_,fun x H2 y=>?_⟩
   .rintro a9 H2 ⟨F2,I,rl2,sf2,e2⟩
    exact⟨dss.length-(i+1),by omega,F2,I,rl2,sf2,ag,rfl,e2⟩
   .obtain⟨rfl,y⟩:=y
    have yx:=y _ (SqL.of a7)
    rw[ac]at yx;cases yx
    have ap:(q::qs.drop (i+1)).Nodup:=by rw[<-O];exact pn.2.sublist (List.drop_sublist _ _)
    have ao:q∉p::qs.drop (i+1):=fun z=>by
     rcases List.mem_cons.mp z with z|z
     .exact pn.1 (z ▸ a0)
     .exact(List.nodup_cons.mp ap).1 z
    have an:q∈p::qs.drop i:=by rw[O];simp
    have ab:Hx H0 H1 (p::qs.drop i) q=some (.lst xs):=by rw[Hx_in an];exact a6
    have ak:Same (Hx H0 H1 (p::qs.drop (i+1))) (Hx H0 H1 (p::qs.drop i)):=fun b u e=>by
     by_cases J:b∈p::qs.drop (i+1)
     .have R:b∈p::qs.drop i:=by
       rw[O]
       rcases List.mem_cons.mp J with z|z
       .rw[z];simp
       .exact List.mem_cons_of_mem _ (List.mem_cons_of_mem _ z)
      rw[Hx_in J]at e;rw[Hx_in R];exact e
     .rw[N0 J]at e
      by_cases R:b∈p::qs.drop i
      .rcases sub i b R with z|z
       .rw[z,ai]at e;cases e
       .rw[a8 b z]at e;cases e
      .rw[N0 R];exact e
    have al:=(M.less ak).setOwn (i:=j) ae ad (aq.mono sf) (by rw[N0 ao];exact a8 q a0) (fun k es hk e1 e2=>by
     obtain⟨w,zs,a1,a2,a3,a4,a5⟩:=M.own k es e1
     rw[a1]at e2;cases e2
     rw[ab]at a5;cases a5) (fun k w es e1 z=>by
     obtain⟨a1,a2,a3,_⟩:=M.ob k w es e1
     rw[z,ab]at a3;cases a3)
    rw[j7 hd]at L
    unfold forP at L
    cases h3:mb (ρ'.set j (some (.own dss[i])))with
    |none=>simp only[h3]at L;cases L
    |some o1=>
     simp only[h3]at L
     refine⟨F0,_,F',_,o1,al,h3,?_⟩
     cases o1 with
     |nx I=>exact fun F4 H4 S N s4=>⟨F4,I,N,sf.trans s4,L⟩
     |ct I=>exact fun F4 H4 S N s4=>⟨F4,I,N,sf.trans s4,L⟩
     |bk I=>
      cases L
      exact fun F4 H4 S N s4=>ok F4 H4 S (N.less (Y _ (sub _))) ((x1.ff.trans sf).trans s4)
     |rt d=>cases L;exact okO.less (o:=.rt d) (Y _ (sub _)) ok
     |rf d=>cases L;exact okO.less (o:=.rf d) (Y _ (sub _)) ok
     |rp d ds=>cases L;exact okO.less (o:=.rp d ds) (Y _ (sub _)) ok
     |rg d p r=>cases L;exact okO.less (o:=.rg d p r) (Y _ (sub _)) ok
     |rgf d p r=>cases L;exact okO.less (o:=.rgf d p r) (Y _ (sub _)) ok
  .left
   have ah:i=dss.length:=by omega
   subst ah
   rw[List.drop_length]at L
   have L:some (Out.nx ρ')=some o:=L
   cases L
   refine⟨⟨_,SqL.of a7,by rw[List.length_map,hn];exact Nat.le_refl _⟩,?_⟩
   exact ok F' H' U (M.less (Y _ (sub _))) (x1.ff.trans sf)
variable {E:XK}{es:List Expr}{m:ML}
noncomputable def mcallP (f:MFP)(m:ML):MP:=fun ρ=>(m ρ).bind f
theorem pp_call {n:Nat}{mf:MFP}(h:∀ t,PA X es t->PE X e (tCall (spP X.K n mf) [] E t))(L:es.length=n)(ha:PAs X es m)(hm:∀ ρ ds,m ρ=some ds->ds.length=es.length):PP X e (mcallP mf m):=(h _ ha).imp fun σ H Q i=>by
 obtain⟨F0,H0,F,ρ,d,J,e,q⟩:=i
 unfold mcallP at e
 cases h1:m ρ with
 |none=>rw[h1]at e;cases e
 |some ds=>
  rw[h1]at e
  refine⟨F0,H0,F,ρ,ds,J,h1,fun vs F1 H1 j r1=>?_⟩
  show spP X.K n mf (vs++[]) H1 Q E
  rw[List.append_nil]
  refine⟨by rw[r1.length,hm ρ ds h1,L],F1,ds,d,j.fh,r1,e,fun p qs F2 H2 I pt=>?_⟩
  exact q p qs F2 H2 (j.trans I) ⟨j.hh.free pt.hp,pt.fp,pt.at',fun z G=>⟨j.hh.free (pt.new z G).1,(pt.new z G).2⟩,pt.nd,pt.rep⟩
theorem asg_m {t:TE}{i:Nat}{na:MEm}(h:PS X st (tAsg t (V7 i)))(G:∀ σ H Q,TDm X.K na σ H Q->t σ H Q):PSd X st (W8 i na):=h.imp fun D σ H j=>by
 obtain⟨F0,H0,F,ρ,o,z,e,ok⟩:=j
 unfold W8 at e
 split at e
 .rename_i d ρ1 h1
  cases e
  exact G _ _ _ ⟨F0,H0,F,ρ,d,ρ1,z,h1,fun v F1 H1 q s1 r1=>ok F1 H1 _ (q.set r1) s1⟩
 .cases e
theorem psd_setCmB {k i j:Nat}{src:List (Option Nat)}{G:ML}{I:MEm}(z:src[j]? =some (some i))(J:j≠0)(h:PS X st (tAsg (M8 src (TId X.K G) (V7 0) tYes (TDm X.K I)) (V7 k))):PSd X st (W8 k (O0 src G i j I)):=asg_m h fun _ _ _ q=>comp_tdmB z J q
end
end L2
namespace L2
open PySem PySem.Spec PyProof.Rows
section
variable {K:PySem.W.Frag}{F0 H0 F H:Hp}{σ:St}{ρ:Ro}
theorem Rl.freezeQ (r:Rl K F0 H0 F H σ ρ){i:Nat}{ds:List D}(h:ρ[i]? =some (some (.own ds))):∃ p xs,F p=none/\Reps K F xs ds/\Rl K F0 H0 (upd F p (.lst xs)) H σ (ρ.set i (some (.sh (.lst ds)))):=by
 obtain⟨p,xs,a,b,c,d,z⟩:=r.own i ds h
 have I:i<ρ.length:=(List.getElem?_eq_some_iff.mp h).1
 have e:Ext F0 H0 (upd F p (.lst xs)) H:=r.ext.freeze b z c
 have ff:Same F (upd F p (.lst xs)):=(Same.refl F).put b
 refine⟨p,xs,b,d,⟨e,by simp[r.len],fun j d' q=>?_,fun j es q=>?_,fun j k q es G M e1 e2 e3 e4=>?_,fun j q es e1=>?_,fun j k q es G e1 e2 e3=>?_,fun j k q Y es G e1 e2=>r.ob1 j k q Y es G (m8 e1).2 (m8 e2).2⟩⟩
 .by_cases hj:i=j
  .subst hj
   rw[List.getElem?_set_self I]at q
   cases q
   exact⟨_,a,.lst (SqL.of x8) (d.mono ff)⟩
  .rw[List.getElem?_set_ne hj]at q
   obtain⟨v,U,S⟩:=r.sh j d' q
   exact⟨v,U,S.mono ff⟩
 .by_cases hj:i=j
  .subst hj
   rw[List.getElem?_set_self I]at q
   cases q
  .rw[List.getElem?_set_ne hj]at q
   obtain⟨N,J,O,b',c',d',R⟩:=r.own j es q
   have hp:N≠p:=fun w=>r.inj i j p ds es hj h q a (by rw[<-w];exact O)
   exact⟨N,J,O,by rw[w5 hp];exact b',c',d'.mono ff,R⟩
 .have n1:i≠j:=fun w=>by subst w;rw[List.getElem?_set_self I]at e1;cases e1
  have L:i≠k:=fun w=>by subst w;rw[List.getElem?_set_self I]at e2;cases e2
  rw[List.getElem?_set_ne n1]at e1
  rw[List.getElem?_set_ne L]at e2
  exact r.inj j k q es G M e1 e2 e3 e4
 .obtain⟨n,e1⟩:=m8 e1
  obtain⟨o1,o2,o3,zs,o4,Z⟩:=r.ob j q es e1
  have hp:q≠p:=fun w=>r.obn j i q es ds e1 h (by rw[w];exact a)
  exact⟨o1,by rw[w5 hp];exact o2,o3,zs,o4,Z.mono ff⟩
 .obtain⟨n,e1⟩:=m8 e1
  have L:i≠k:=fun w=>by subst w;rw[List.getElem?_set_self I]at e2;cases e2
  rw[List.getElem?_set_ne L]at e2
  exact r.obn j k q es G e1 e2 e3
end
noncomputable def hasL:List D->Bool
 |[]=>false
 | .lst _::_=>true
 |_::r=>hasL r
theorem hasL_no {K:PySem.W.Frag}{F:Hp}:∀{xs:List V}{ds es:List D},hasL ds=true->numsD es=true->Reps K F xs ds->Reps K F xs es->False
 |_,[],_,h,_,_,_=>by cases h
 |_,d::ds,[],h,_,.cons _ _,r=>by cases r
 |_,d::ds,e::es,h,h2,.cons a r,.cons b r2=>by
  cases e with
  |int k=>
   cases b
   cases a
   exact hasL_no (show hasL ds=true from h) (show numsD es=true from h2) r r2
  |_=>cases h2
noncomputable def tellL (ds:List D):D->Bool
 | .lst es=>numsD es&&hasL ds
 |_=>false
@[irreducible] noncomputable def mborL (i:Nat)(m:ME):ME:=fun ρ=>match ρ[i]? with
 |some (some (.own ds))=>(match m (ρ.set i (some (.sh (.lst ds))))with |some d=>if tellL ds d=true then some d else none|none=>none)
 |_=>m ρ
theorem tellL_rep {K:PySem.W.Frag}{F:Hp}{p:Addr}{xs:List V}{ds:List D}{v:V}{d:D}(hp:F p=some (.lst xs))(q:Reps K F xs ds)(h:tellL ds d=true)(r:Rep K F v d):Rep K (fun b=>if b=p then none else F b) v d:=by
 cases r with
 |lst i j=>
  rename_i a ys es
  have h:(numsD es&&hasL ds)=true:=h
  rw[Bool.and_eq_true]at h
  refine .lst ?_ (reps_nums h.1 j)
  rcases i with (i|⟨o,i⟩)|i
  .have hne:a≠p:=fun z=>by
    rw[z,hp]at i;cases i
    exact hasL_no h.2 h.1 q j
   exact .inl (.inl (by show (if a=p then none else F a)=_;rw[if_neg hne];exact i))
  .have hne:a≠p:=fun z=>by rw[z,hp]at i;cases i
   exact .inl (.inr ⟨o,by show (if a=p then none else F a)=_;rw[if_neg hne];exact i⟩)
  .exact .inr i
 |_=>cases h
theorem pd_borL {X:Cx}{e:Expr}{m:ME}(i:Nat)(h:PD X e m):PD X e (mborL i m):=h.imp fun σ H Q I=>by
 obtain⟨F0,H0,F,ρ,d,M,e,q⟩:=I
 unfold mborL at e
 split at e
 .rename_i ds h1
  obtain⟨p,xs,hp,N,J⟩:=M.freezeQ h1
  split at e
  .rename_i d' h2
   split at e
   .rename_i hs
    cases e
    refine⟨F0,H0,_,_,d,J,h2,fun v F2 H2 G r2=>?_⟩
    have L:F2 p=some (.lst xs):=G.ff _ _ x8
    refine q v (fun b=>if b=p then none else F2 b) H2 ⟨fun b o j=>?_,G.hh,fun b o j=>?_,fun b j hn=>?_,fun b o u z=>by
     have z:(if b=p then none else F2 b)=some (.frz o u):=z
     split at z
     .cases z
     .rename_i hne
      have:=G.nf b o u z
      rwa [w5 hne]at this⟩ (tellL_rep L (N.mono (((Same.refl F).put hp).trans G.ff)) hs r2)
    .have hne:b≠p:=fun w=>by rw[w,hp]at j;cases j
     show (if b=p then none else F2 b)=some o
     rw[if_neg hne]
     exact G.ff b o (by rw[w5 hne];exact j)
    .have j:(if b=p then none else F2 b)=some o:=j
     split at j
     .cases j
     .exact G.fh b o j
    .have hn:(if b=p then none else F2 b)≠none:=hn
     split at hn
     .exact absurd rfl hn
     .rename_i hne
      exact G.new b (by rw[w5 hne];exact j) hn
   .cases e
  .cases e
 .exact⟨F0,H0,F,ρ,d,M,e,q⟩
end L2
namespace L2
open PySem PySem.Spec PyProof.Rows
section
variable {X:Cx}{a b:Expr}{ma mb:ME}{pos:Pos}
end
noncomputable def idxI (k:Int):List Int->Option Nat
 |[]=>none
 |n::r=>if n=k then some 0 else (idxI k r).map (·+1)
theorem idxI_spec {k:Int}:∀{ns:List Int}{j:Nat},idxI k ns=some j->ns[j]? =some k/\∀ m,m<j->ns[m]? ≠some k
 |[],_,h=>by cases h
 |n::r,j,h=>by
  unfold idxI at h
  split at h
  .rename_i e
   cases h;exact⟨by rw[e];rfl,fun m hm=>absurd hm (Nat.not_lt_zero _)⟩
  .rename_i e
   cases h1:idxI k r with
   |none=>rw[h1]at h;cases h
   |some i=>
    rw[h1]at h;cases h
    obtain⟨G,q⟩:=idxI_spec h1
    refine⟨G,fun m hm=>?_⟩
    cases m with
    |zero=>intro z;exact e (Option.some.inj z)
    |succ m=>exact q m (Nat.lt_of_succ_lt_succ hm)
section
variable {X:Cx}{a b:Expr}
noncomputable def rIdxI (K:PySem.W.Frag):V->List V->Hp->VK->Prop:=fun x vs H Q=>∃ l ns k j,x= .ref l/\vs=[.int k]/\SqL K H l (ns.map V.int)/\ns.length<=1000/\idxI k ns=some j/\Q (.int (j:Int)) H
theorem ints_get:∀{vs:List Value}{ns:List Int},IntsAre vs ns->∀{m:Nat}{n:Int},ns[m]? =some n->∃ t,vs[m]? =some (.int n t)
 |_,_,.nil,m,n,h=>by simp at h
 |_,_,.cons a t r,0,n,h=>by simp at h;subst h;exact⟨_,rfl⟩
 |_,_,.cons a t r,m+1,n,h=>by
  obtain⟨u,e⟩:=ints_get r (m:=m) (n:=n) (by simpa using h)
  exact⟨u,by simpa using e⟩
open PySem.SeqAt in
theorem mt_indexI:MtR X "list.index" (rIdxI X.K):=by
 intro pins s σ H x vs v us Q I rx Y h
 obtain⟨l,ns,k,j,rfl,rfl,hl,hz,hj,q⟩:=h
 cases rx
 obtain⟨u,rfl,Z⟩:=Y.one
 obtain⟨tk,rfl⟩:=Z
 obtain⟨its,r,⟨⟨cl,dd,dt,sl⟩,n,e,S,G,hd⟩,z⟩:=I.list hl
 simp only at S hd G
 subst S hd G
 have hi:=J3 r
 have L:its.length=ns.length:=by rw[<-r.length,List.length_map]
 obtain⟨h1,h2⟩:=idxI_spec hj
 have O:j<ns.length:=(List.getElem?_eq_some_iff.mp h1).1
 refine call_meets F.slot_list_index ⟨_,e,rfl⟩ F.entry_list_index (F.args_list_index_2 _ _) (list_indexAt l its.toArray n none sl (.int k tk) (fun y=>numOf y==k) j (by simpa[L]using O) (by omega) ?_ ?_) ⟨e,?_,?_⟩
 .obtain⟨t,i⟩:=ints_get hi h1
  have R:j<its.length:=by omega
  rw[List.getElem?_eq_getElem R]at i
  have i:=Option.some.inj i
  simp[i,numOf]
 .intro m hm hmj
  have J:m<ns.length:=by omega
  obtain⟨t,i⟩:=ints_get hi (List.getElem?_eq_getElem J)
  have N:m<its.length:=by omega
  rw[List.getElem?_eq_getElem N]at i
  have i:=Option.some.inj i
  have M:ns[m]≠k:=fun U=>h2 m hmj (by rw[List.getElem?_eq_getElem J,U])
  simp[i,numOf,M]
 .intro y hy
  obtain⟨n',t',rfl⟩:=hi.all y (by simpa using hy)
  exact EqAt.int_int (A:=X.A.in1) (s:=s) n' t' k tk
 .exact⟨.int j,H,I.tok _,⟨_,rfl⟩,q⟩
@[irreducible] noncomputable def midxI (m:ML)(x:ME):ME:=fun ρ=>match m ρ,x ρ with
 |some ds,some (.int k)=>(match Q4 ds with |some ns=>if ns.length<=1000 then (idxI k ns).map fun j=>.int (j:Int)else none|none=>none)
 |_,_=>none
theorem pd_indexI {m:ML}{x:ME}{apos cpos:Pos}(O:PB X a m)(M:PD X b x)
  (N:∀ t,PA X [b] t->PE X (.Call (.Attribute a "index" apos) [b] [] cpos) (tBM X.K "list" (rIdxI X.K) (TB X.K m) t)) (L:starEach (b::[]) X.env=(false,eval b X.env)::starEach [] X.env:=by rfl):PD X (.Call (.Attribute a "index" apos) [b] [] cpos) (midxI m x):=
 (N _ (b9 M pa_nil L)).imp fun σ H Q i=>by
  obtain⟨F0,H0,F,ρ,g,I,e,q⟩:=i
  unfold midxI at e
  split at e
  .rename_i ds k h1 h0
   split at e
   .rename_i ns h2
    split at e
    .rename_i hz
     cases h3:idxI k ns with
     |none=>rw[h3]at e;cases e
     |some j=>
      rw[h3]at e;cases e
      refine⟨F0,H0,F,ρ,_,I,h1,fun p xs F1 H1 G s1 r1=>?_⟩
      have J:=O2 r1 h2
      subst J
      refine⟨.inl ⟨rfl,_,s1⟩,F0,H0,F1,ρ,_,I.go G,h0,fun v F2 H2 z r2=>?_⟩
      cases r2
      exact⟨p,ns,k,j,rfl,rfl,z.hh.seq s1,hz,h3,q _ F2 H2 (G.trans z) (.int _)⟩
    .cases e
   .cases e
  .cases e
end
end L2
namespace L2
open PySem PySem.Spec PyProof.Rows
section
variable {X:Cx}{a b c e o:Expr}{ma mb mo:ME}{pos:Pos}{st:Stmt}
end
open Classical in
section
variable {X:Cx}{pos:Pos}
end
end L2
namespace L2
open PySem PySem.Spec PyProof.Rows
@[irreducible] noncomputable def D6 (src:List (Option Nat))(mx:MEm)(g:Tg)(c:MB)(elt:ME):MEm:=fun ρ=>match mx ρ with
 |some (.lst its,ρ1)=>(match d9 g c elt its (d5 src ρ1) []with |some out=>some (.lst out,ρ1)|none=>none)
 |_=>none
theorem comp_tdmI {K:PySem.W.Frag}{src:List (Option Nat)}{mx:MEm}{g:Tg}{c:MB}{M:ME}{σ:St}{H:Hp}{Q:VK}(h:TDm K (D6 src mx g c M) σ H Q):M8 src (iList K (TDm K mx)) (TGd K g) (TC K c) (TD K M) σ H Q:=by
 obtain⟨F0,H0,F,a5,d,ρ,rl,e,q⟩:=h
 unfold D6 at e
 split at e
 .rename_i its ρ1 h1
  split at e
  .rename_i out h2
   cases e
   have e:=h2
   refine⟨F0,H0,F,a5,_,_,rl,h1,fun v F1 H1 U s1 r1=>?_⟩
   cases r1 with
   |lst sq rs=>
    rename_i a ys
    refine⟨a,rfl,⟨ys,U.fh.seq sq⟩,?_⟩
    have I:=itd_list sq rs
    intro p hp
    obtain⟨rb,no⟩:=U.blk src
    have a4:F1 p=none:=U.fh.free hp
    refine⟨fun i m a2 H'=>∃ F' ρ' acc xs,Rl K F1 H1 F' H' a2 ρ'/\NoOwn ρ'/\H' p=some (.lst xs)/\F' p=none/\Reps K F' xs acc/\i<=its.length/\m=its.length-i/\d9 g c M (its.drop i) ρ' acc=some out,
     ⟨_,F1,d5 src ρ,[],[],rb.other no hp a4,no,x8,a4,.nil,Nat.zero_le _,rfl,e⟩,?_⟩
    rintro i m a2 H' ⟨F',ρ',acc,xs,z,a7,L,Y,ra,a9,rfl,j⟩
    by_cases a0:i<its.length
    .right
     have hd:=List.getElem?_eq_getElem a0
     refine⟨I.go i F' H' z.ext.ff z.fh a0,fun a1 H2=>∃ F2 J G N,Rl K F1 H1 F2 H2 a1 J/\NoOwn J/\H2 p=some (.lst N)/\F2 p=none/\Reps K F2 N G/\d9 g c M (its.drop (i+1)) J G=some out,?_,fun x H2 y=>?_⟩
     .rintro a1 H2 ⟨F2,J,G,N,b1,b2,b3,b4,b5,b6⟩
      exact⟨its.length-(i+1),by omega,F2,J,G,N,b1,b2,b3,b4,b5,a0,rfl,b6⟩
     .obtain⟨F2,x2,r2⟩:=I.yld i F' H' x H2 _ z.ext.ff z.fh hd y
      rw[j7 hd]at j
      unfold d9 at j
      have pn:∀{F3 H3:Hp},Ext F' H' F3 H3->F3 p=none:=fun{F3 H3} x3=>by
       cases qq:F3 p with
       |none=>rfl
       |some o=>have:=x3.new p Y (by rw[qq];simp);rw[this]at L;cases L
      cases h2:tgD g its[i] ρ' with
      |none=>simp only[h2]at j;cases j
      |some ρ1=>
       simp only[h2]at j
       refine⟨F1,H1,F2,ρ',_,ρ1,z.go x2,r2,h2,fun F3 H3 a8 S x3=>?_⟩
       have Z:=a7.tg h2
       have a6:=x2.trans x3
       cases h3:c ρ1 with
       |none=>simp only[h3]at j;cases j
       |some k=>
        refine⟨F1,H1,F3,ρ1,k,S,h3,fun F4 H4 x4=>?_⟩
        have R:=a6.trans x4
        cases k with
        |false=>
         simp only[h3]at j
         exact iteF ⟨F4,ρ1,acc,xs,S.go x4,Z,R.hh _ _ L,pn R,ra.mono R.ff,j⟩
        |true=>
         simp only[h3]at j
         refine iteT ?_
         cases h4:M ρ1 with
         |none=>simp only[h4]at j;cases j
         |some d=>
          simp only[h4]at j
          split at j
          .rename_i hz
           refine⟨F1,H1,F4,ρ1,d,S.go x4,h4,fun v F5 H5 x5 r5=>?_⟩
           have O:=R.trans x5
           refine⟨xs,O.hh _ _ L,by rw[ra.length];exact hz,F5,ρ1,acc++[d],xs++[v],((S.go x4).go x5).other Z hp (pn O),Z,x8,pn O,(ra.mono O.ff).append (.cons r5 .nil),j⟩
          .cases j
    .left
     have a3:i=its.length:=by omega
     subst a3
     rw[List.drop_length]at j
     have j:some acc=some out:=j
     cases j
     refine⟨I.stop F' H' z.ext.ff z.fh,q _ (upd F' p (.lst xs)) H' (U.go (z.ext.freeze Y hp L)) (s1.trans (z.ext.ff.trans ((Same.refl F').put Y))) (.lst (SqL.of x8) (ra.mono ((Same.refl F').put Y)))⟩
  .cases e
 .cases e
section
variable {X:Cx}{st:Stmt}
theorem psd_setCmI {k:Nat}{src:List (Option Nat)}{mx:MEm}{g:Tg}{cc:MB}{i:ME}(h:PS X st (tAsg (M8 src (iList X.K (TDm X.K mx)) (TGd X.K g) (TC X.K cc) (TD X.K i)) (V7 k))):PSd X st (W8 k (D6 src mx g cc i)):=asg_m h fun _ _ _ q=>comp_tdmI q
theorem pdm_min2 {x y:Expr}{p pos:Pos}{m:MLm}(I:X.calm=true)(z:Gl X "min")(hm:X.mg "min"=none)(ha:PAm X [x,y] m)(G:starEach [x,y] X.env=(false,eval x X.env)::starEach [y] X.env:=by rfl)(q:(backTo pos (starEach [y] X.env)).any (·.1)=false:=by rfl):PDm X (.Call (.Name "min" p) [x,y] [] pos) (G1 S3 m):=
 (U4 (call_min2 I) z hm PyProof.Rows.boot_min ha (by decide) (by decide) G q).imp fun _ _ _ h=>callm_d (G0 (k:=fun i j=>if j<i then j else i)) h
end
end L2
set_option maxHeartbeats 4000000
namespace Lw
open PySem L2
abbrev k0a (r:List Int):Option S:=some (.sh (.lst (r.map .int)))
abbrev k0b (k:Nat):Option S:=some (.sh (.int (k:Int)))
abbrev k0c (k:Int):Option S:=some (.sh (.int k))
noncomputable section
noncomputable def b_Z16:MS:=(mif (v3 (m2 ltD (mvar 0) (mc (.int 1)))) D4 j9)
noncomputable def J2:MF:=runB 1 b_Z16
noncomputable def b_Z15_f0:MS:=(mseq (mapp 2 (mlst (i6 [none,some 1,some 5,some 0] (p8 rng2 (y0 (m2 addD (mvar 4) (mc (.int 1))) (y0 (mlen (bvar 0)) anil))) (.nm 0) (v3 (m2 geD (m2 subD (mix (bvar 3) (mvar 0)) (mvar 2)) (mvar 1))) (mvar 0)))) (mapp 3 (mlst (i6 [none,some 1,some 5,some 0] (p8 rng2 (y0 (m2 addD (mvar 4) (mc (.int 1))) (y0 (mlen (bvar 0)) anil))) (.nm 0) (v3 (m2 geD (m2 subD (mvar 2) (mix (bvar 3) (mvar 0))) (mvar 1))) (mvar 0)))))
noncomputable def b_Z15_r1:MS:=(e9 3 (e9 2 (mret (mtup (y0 (mvar 2) (y0 (mvar 3) anil))))))
noncomputable def b_Z15:MS:=(mseq (Z0 2 (t5 anil)) (mseq (Z0 3 (t5 anil)) (mseq (mfor (p8 E2 (y0 (mvar 0) anil)) (.tp [4,5]) b_Z15_f0) b_Z15_r1)))
noncomputable def m_Z15:MF:=runB 6 b_Z15
noncomputable def M5:MS:=(mseq (mif (cor (v3 (m2 ltD (mvar 3) (mvar 2))) (v3 (m2 geD (mvar 3) (mlen (bvar 0))))) (mret (mc (.bl false))) j9) (mset 2 (m2 addD (mvar 3) (mc (.int 1)))))
noncomputable def b_Z17:MS:=(mseq (mset 2 (mc (.int 0))) (mseq (mfor (p6 (mvar 1)) (.nm 3) M5) (mret (mc (.bl true)))))
noncomputable def m_Z17:MF:=runB 4 b_Z17
noncomputable def b_Z19_f0:MS:=(mif (cor (v3 (m2 ltD (f9 max2F (y0 (mvar 2) (y0 (mvar 4) anil))) (mvar 3))) (v3 (m2 ltD (mvar 3) (f9 S3 (y0 (mvar 2) (y0 (mvar 4) anil)))))) (maug 1 (mc (.int 1))) j9)
noncomputable def b_Z19:MS:=(mseq (mset 1 (mc (.int 0))) (mseq (mfor (p8 zip3 (y0 (mvar 0) (y0 (mlst (mcut (bvar 0) (V2 (mc (.int 1))) R9)) (y0 (mlst (mcut (bvar 0) (V2 (mc (.int 2))) R9)) anil)))) (.tp [2,3,4]) b_Z19_f0) (mretO 1)))
noncomputable def m_Z19:MF:=runB 5 b_Z19
noncomputable def b_Z5:MS:=(mseq (mif (cnot (mtru (r6 m_Z17 (y0 (mvar 0) (y0 (mvar 1) anil))))) D4 j9) (mret (r6 m_Z19 (y0 (mlst (i6 [none,some 0] (p6 (mvar 1)) (.nm 0) cyes (mix (bvar 1) (mvar 0)))) anil))))
noncomputable def m_Z5:MF:=runB 2 b_Z5
noncomputable def b_Z23_f0:MS:=(mseq (mset 6 (m2 subD (mix (bvar 0) (mvar 5)) (mix (bvar 0) (mvar 4)))) (mseq (mif (cand (v3 (m2 geD (mvar 6) (mvar 1))) (v3 (m2 geD (mlen (p6 (mix (bvar 3) (mvar 5)))) (mlen (p6 (mix (bvar 2) (mvar 4))))))) (f6 2 (mvar 4) (mlst (mcat (t5 (y0 (mvar 4) anil)) (p6 (mix (bvar 3) (mvar 5)))))) j9) (mif (cand (v3 (m2 geD (m1 negD (mvar 6)) (mvar 1))) (v3 (m2 geD (mlen (p6 (mix (bvar 2) (mvar 5)))) (mlen (p6 (mix (bvar 3) (mvar 4))))))) (f6 3 (mvar 4) (mlst (mcat (t5 (y0 (mvar 4) anil)) (p6 (mix (bvar 2) (mvar 5)))))) j9)))
noncomputable def b_Z23_f1:MS:=(mfor (p8 rng2 (y0 (m2 addD (mvar 4) (mc (.int 1))) (y0 (mlen (bvar 0)) anil))) (.nm 5) b_Z23_f0)
noncomputable def b_Z23_r2:MS:=(e9 2 (e9 3 (mret (mtup (y0 (mvar 2) (y0 (mvar 3) anil))))))
noncomputable def b_Z23:MS:=(mseq (Z0 2 (i6 [none] (p8 rng1 (y0 (mlen (bvar 0)) anil)) (.nm 0) cyes (mlst (t5 (y0 (mvar 0) anil))))) (mseq (Z0 3 (i6 [none] (p8 rng1 (y0 (mlen (bvar 0)) anil)) (.nm 0) cyes (mlst (t5 (y0 (mvar 0) anil))))) (mseq (mfor (p8 rngD (y0 (mlen (bvar 0)) anil)) (.nm 4) b_Z23_f1) b_Z23_r2)))
noncomputable def m_Z23:MF:=runB 7 b_Z23
noncomputable def b_Z11:MS:=(mret (mtup (y0 (m1 negD (mlen (bvar 0))) (y0 (mvar 0) anil))))
noncomputable def Y2:MF:=runB 1 b_Z11
noncomputable def b_Z22:MS:=(mseq (mexpr (r6 J2 (y0 (mvar 1) anil))) (mseq (masg (.tp [2,3]) (r6 m_Z23 (y0 (mvar 0) (y0 (mvar 1) anil)))) (mret (mminK (fun d=>shOf (Y2 [d])) (p6 (m2 addD (mvar 2) (mvar 3))) (mlst (t5 anil))))))
noncomputable def m_Z22:MF:=runB 4 b_Z22
noncomputable def b_Z21:MS:=(mret (mlen (p6 (r6 m_Z22 (y0 (mvar 0) (y0 (mvar 1) anil))))))
noncomputable def m_Z21:MF:=runB 2 b_Z21
noncomputable def b_Z6:MS:=(mret (P9 (i6 [none,some 0] (p6 (mvar 1)) (.nm 0) cyes (mix (bvar 1) (mvar 0))) (mlst (t5 anil))))
noncomputable def m_Z6:MF:=runB 2 b_Z6
noncomputable def b_Z7_f0:MS:=(mseq (f6 6 (mvar 10) (mlst (mcat (t5 (y0 (mvar 10) anil)) (p6 (mborL 8 (r6 m_Z6 (y0 (mvar 8) (y0 (mix (bvar 2) (mvar 10)) anil)))))))) (mseq (f6 7 (mvar 10) (mlst (mcat (t5 (y0 (mvar 10) anil)) (p6 (mborL 9 (r6 m_Z6 (y0 (mvar 9) (y0 (mix (bvar 3) (mvar 10)) anil)))))))) (mseq (f6 8 (mvar 10) (K9 (fun d=>shOf (Y2 [d])) (y0 (mix (bvar 6) (mvar 10)) (y0 (mix (bvar 5) (mvar 10)) anil)))) (f6 9 (mvar 10) (K9 (fun d=>shOf (Y2 [d])) (y0 (mix (bvar 7) (mvar 10)) (y0 (mix (bvar 4) (mvar 10)) anil)))))))
noncomputable def b_Z7_r1:MS:=(e9 6 (e9 7 (mret (mtup (y0 (mvar 6) (y0 (mvar 7) anil))))))
noncomputable def b_Z7:MS:=(mseq (masg (.tp [2,3]) (mvar 0)) (mseq (masg (.tp [4,5]) (mvar 1)) (mseq (Z0 6 (mrep (t5 (y0 (mlst (t5 anil)) anil)) (mlen (bvar 2)))) (mseq (Z0 7 (mrep (t5 (y0 (mlst (t5 anil)) anil)) (mlen (bvar 2)))) (mseq (Z0 8 (mrep (t5 (y0 (mlst (t5 anil)) anil)) (mlen (bvar 2)))) (mseq (Z0 9 (mrep (t5 (y0 (mlst (t5 anil)) anil)) (mlen (bvar 2)))) (mseq (mfor (p8 rngD (y0 (mlen (bvar 2)) anil)) (.nm 10) b_Z7_f0) b_Z7_r1)))))))
noncomputable def m_Z7:MF:=runB 11 b_Z7
noncomputable def b_Z18:MS:=(mret (mtup (y0 (mlst (mrep (t5 (y0 (mlst (t5 anil)) anil)) (mlen (bvar 0)))) (y0 (mlst (mrep (t5 (y0 (mlst (t5 anil)) anil)) (mlen (bvar 0)))) anil))))
noncomputable def m_Z18:MF:=runB 1 b_Z18
noncomputable def b_Z10:MS:=(mseq (masg (.tp [1,2]) (mvar 0)) (mret (mminK (fun d=>shOf (Y2 [d])) (p6 (m2 addD (mvar 1) (mvar 2))) (mlst (t5 anil)))))
noncomputable def F9:MF:=runB 3 b_Z10
noncomputable def b_Z1_f0:MS:=(mset 4 (r6 m_Z7 (y0 (mvar 3) (y0 (mvar 4) anil))))
noncomputable def b_Z1:MS:=(mseq (mexpr (r6 J2 (y0 (mvar 1) anil))) (mseq (mif (v3 (m2 ltD (mvar 2) (mc (.int 0)))) D4 j9) (mseq (mset 3 (r6 m_Z15 (y0 (mvar 0) (y0 (mvar 1) anil)))) (mseq (mset 4 (r6 m_Z18 (y0 (mvar 0) anil))) (mseq (mfor (p8 rng1 (y0 (m2 addD (f9 S3 (y0 (mvar 2) (y0 (mlen (bvar 0)) anil))) (mc (.int 1))) anil)) (.nm 5) b_Z1_f0) (mret (r6 F9 (y0 (mvar 4) anil))))))))
noncomputable def m_Z1:MF:=runB 6 b_Z1
noncomputable def b_Z12_f0:MS:=(f6 3 (mvar 4) (m2 addD (mc (.int 1)) (mmaxE (J1 [none,some 3] (p6 (m2 addD (mix (bvar 1) (mvar 4)) (mix (bvar 2) (mvar 4)))) (.nm 0) cyes (mix (bvar 1) (mvar 0))) (mc (.int 0)))))
noncomputable def b_Z12_r1:MS:=(e9 3 (mret (mmaxE (bvar 3) (mc (.int 0)))))
noncomputable def b_Z12:MS:=(mseq (masg (.tp [1,2]) (mvar 0)) (mseq (Z0 3 (mrep (t5 (y0 (mc (.int 0)) anil)) (mlen (bvar 1)))) (mseq (mfor (p8 rngD (y0 (mlen (bvar 1)) anil)) (.nm 4) b_Z12_f0) b_Z12_r1)))
noncomputable def m_Z12:MF:=runB 5 b_Z12
noncomputable def b_Z9_f0:MS:=(mseq (mset 4 (r6 m_Z7 (y0 (mvar 2) (y0 (mvar 4) anil)))) (mapp 5 (mlen (p6 (r6 F9 (y0 (mvar 4) anil))))))
noncomputable def b_Z9:MS:=(mseq (mexpr (r6 J2 (y0 (mvar 1) anil))) (mseq (mset 2 (r6 m_Z15 (y0 (mvar 0) (y0 (mvar 1) anil)))) (mseq (mset 3 (r6 m_Z12 (y0 (mvar 2) anil))) (mseq (mset 4 (r6 m_Z7 (y0 (mvar 2) (y0 (r6 m_Z18 (y0 (mvar 0) anil)) anil)))) (mseq (Z0 5 (t5 (y0 (mlen (p6 (r6 F9 (y0 (mvar 4) anil)))) anil))) (mseq (S9 (v3 (m2 ltD (mix (bvar 5) (m1 negD (mc (.int 1)))) (mvar 3))) b_Z9_f0 1000) (mretO 5)))))))
noncomputable def m_Z9:MF:=runB 6 b_Z9
noncomputable def b_Z13_f0:MS:=(mif (v3 (m2 geD (mvar 4) (mvar 2))) (mretO 3) j9)
noncomputable def b_Z13:MS:=(mseq (mexpr (r6 J2 (y0 (mvar 1) anil))) (mseq (mif (v3 (m2 ltD (mvar 2) (mc (.int 0)))) D4 j9) (mseq (mfor (p8 E2 (y0 (r6 m_Z9 (y0 (mvar 0) (y0 (mvar 1) anil))) anil)) (.tp [3,4]) b_Z13_f0) (mret (mc .non)))))
noncomputable def m_Z13:MF:=runB 5 b_Z13
noncomputable def b_Z20:MS:=(mseq (f6 0 (mc (.int 1)) (m2 addD (mix (bvar 0) (mc (.int 1))) (mc (.int 1)))) (mseq (mset 2 (mix (bvar 0) (mc (.int 0)))) (mseq (mif (v3 (m2 geD (mvar 2) (m2 powD (mc (.int 10)) (mc (.int 18))))) (mseq (f6 0 (mc (.int 0)) (m2 fdivD (mvar 2) (mvar 1))) (W0 0 (mpu (m2 modD (mvar 2) (mvar 1))))) j9) (mseq (mset 3 (m2 modD (m2 addD (m2 addD (m2 mulD (mvar 2) (mc (.int 69621))) (m2 mulD (mix (bvar 0) (mc (.int 1))) (mc (.int 7919)))) (mc (.int 13))) (mc (.int 2147483647)))) (mseq (mset 3 (m2 modD (m2 mulD (mvar 3) (mvar 3)) (mc (.int 2147483629)))) (W0 0 (mpu (m2 modD (m2 fdivD (m2 modD (m2 addD (m2 mulD (mvar 3) (mc (.int 48271))) (m2 mulD (mix (bvar 0) (mc (.int 1))) (mc (.int 40692)))) (mc (.int 2147483587))) (mc (.int 8))) (mvar 1)))))))))
noncomputable def h9:MG:=runG 4 b_Z20
noncomputable def X0:MFP:=runP 1 (v3 (m2 eqSD (mlen (bvar 0)) (mc (.int 0)))) (mlst1 (t5 (y0 (mc (.int 0)) (y0 (mc (.int 0)) anil)))) (D5 [none] (p6 (mlst (mcut (bvar 0) R9 (V2 (mc (.int 63)))))) (.nm 0) (t5 (y0 (mvar 0) (y0 (mc (.int 0)) anil))))
noncomputable def b_Z2:MS:=(mseq (mif (v3 (m2 eqSD (mvar 1) (mc (.int 0)))) (W0 0 (t9 h9 0 (apu (y0 (mc (.int 4)) anil)))) j9) (mseq (mif (v3 (m2 eqSD (mvar 1) (mc (.int 1)))) (W0 0 (m2m subD (t9 h9 0 (apu (y0 (mc (.int 21)) anil))) (mpu (mc (.int 10))))) j9) (mseq (mif (v3 (m2 eqSD (mvar 1) (mc (.int 2)))) (W0 0 (m2m subD (t9 h9 0 (apu (y0 (mc (.int 1001)) anil))) (mpu (mc (.int 500))))) j9) (W0 0 (m2m mulD (m2m ixLD (mpu (mlst (t5 (y0 (m1 negD (mc (.int 1))) (y0 (mc (.int 1)) anil))))) (t9 h9 0 (apu (y0 (mc (.int 2)) anil)))) (m2m addD (mpu (m2 powD (mc (.int 10)) (mc (.int 29)))) (t9 h9 0 (apu (y0 (mc (.int 1000)) anil)))))))))
noncomputable def m_Z2:MG:=runG 2 b_Z2
noncomputable def b_Z14:MS:=(mseq (W8 2 (t9 h9 0 (apu (y0 (mc (.int 4)) anil)))) (mseq (W8 3 (t9 h9 0 (d7 (m2m ixLD (mpu (mlst (t5 (y0 (f9 S3 (y0 (mc (.int 4)) (y0 (m2 addD (mvar 1) (mc (.int 1))) anil))) (y0 (f9 S3 (y0 (mc (.int 9)) (y0 (m2 addD (mvar 1) (mc (.int 1))) anil))) (y0 (m2 addD (mvar 1) (mc (.int 1))) anil)))))) (t9 h9 0 (apu (y0 (mc (.int 3)) anil)))) (apu anil)))) (mseq (W8 4 (O0 [none,some 0,some 2] (p8 rng1 (y0 (mvar 3) anil)) 0 1 (t9 m_Z2 1 (apu (y0 (mvar 2) anil))))) (mseq (W8 5 (t9 h9 0 (apu (y0 (mc (.int 6)) anil)))) (mseq (mif (v3 (m2 eqSD (mvar 5) (mc (.int 0)))) (mset 4 (mlst (S1 (bvar 4)))) j9) (mseq (mif (v3 (m2 eqSD (mvar 5) (mc (.int 1)))) (mset 4 (mlst (i6 [none,none] (p8 E2 (y0 (mvar 4) anil)) (.tp [0,1]) cyes (m2 addD (mvar 1) (mix (t5 (y0 (mc (.int 7)) (y0 (m1 negD (mc (.int 7))) anil))) (m2 modD (mvar 0) (mc (.int 2)))))))) j9) (mseq (mif (v3 (m2 eqSD (mvar 5) (mc (.int 2)))) (mset 4 (mlst (mrep (mcut (bvar 4) R9 (V2 (mc (.int 1)))) (mvar 3)))) j9) (W0 0 (mpu (mvar 4))))))))))
noncomputable def m_Z14:MG:=runG 6 b_Z14
noncomputable def b_Z8:MS:=(W0 0 (m2m ixLD (mlstm (d7 (mpu (mc (.int 1))) (d7 (mpu (mc (.int 1))) (d7 (m2m addD (mpu (mc (.int 1))) (t9 h9 0 (apu (y0 (mc (.int 4)) anil)))) (d7 (m2m addD (mpu (mc (.int 1))) (t9 h9 0 (apu (y0 (mc (.int 40)) anil)))) (apu (y0 (m2 powD (mc (.int 10)) (mc (.int 29))) anil))))))) (t9 h9 0 (apu (y0 (mc (.int 5)) anil)))))
noncomputable def m_Z8:MG:=runG 1 b_Z8
noncomputable def b_Z4_f0:MS:=(mseq (mset 5 (r6 m_Z1 (y0 (mvar 0) (y0 (mvar 1) (y0 (mvar 3) anil))))) (mseq (mif (cor (v3 (m2 neSD (mlen (bvar 5)) (mvar 4))) (v3 (m2 gtD (r6 m_Z5 (y0 (mvar 0) (y0 (mvar 5) anil))) (mvar 3)))) (mret (mc (.bl false))) j9) (mseq (mif (v3 (meqB true (i6 [none,none,some 1,some 0] (p8 zip2 (y0 (mvar 5) (y0 (mlst (mcut (bvar 5) (V2 (mc (.int 1))) R9)) anil))) (.tp [0,1]) (cor (v3 (m2 ltD (f9 absF (y0 (m2 subD (mix (bvar 3) (mvar 0)) (mix (bvar 3) (mvar 1))) anil)) (mvar 2))) (v3 (m2 leD (mvar 1) (mvar 0)))) (mc (.int 1))) (t5 anil))) (mret (mc (.bl false))) j9) (mif (cand (v3 (m2 gtD (mvar 4) (mc (.int 0)))) (v3 (m2 neSD (r6 m_Z13 (y0 (mvar 0) (y0 (mvar 1) (y0 (mvar 4) anil)))) (midxI (bvar 2) (mvar 4))))) (mret (mc (.bl false))) j9))))
noncomputable def b_Z4:MS:=(mseq (mset 2 (r6 m_Z9 (y0 (mvar 0) (y0 (mvar 1) anil)))) (mseq (mif (cor (v3 (meqB true (bvar 2) (S1 (bvar 2)))) (v3 (m2 neSD (mlen (p6 (r6 m_Z1 (y0 (mvar 0) (y0 (mvar 1) (y0 (mlen (bvar 0)) anil)))))) (mix (bvar 2) (m1 negD (mc (.int 1))))))) (mret (mc (.bl false))) j9) (mseq (mfor (p8 E2 (y0 (mvar 2) anil)) (.tp [3,4]) b_Z4_f0) (mret (mand (m2 (isND false) (r6 m_Z13 (y0 (mvar 0) (y0 (mvar 1) (y0 (m2 addD (mix (bvar 2) (m1 negD (mc (.int 1)))) (mc (.int 1))) anil)))) (mc .non)) (m2 eqSD (r6 m_Z13 (y0 (mvar 0) (y0 (mvar 1) (y0 (mc (.int 0)) anil)))) (mc (.int 0))))))))
noncomputable def m_Z4:MF:=runB 6 b_Z4
noncomputable def b_Z3_f0:MS:=(mif (v3 (m2 ltD (mix (bvar 3) (mvar 5)) (m2 addD (mvar 5) (mc (.int 2))))) (mret (mc (.bl false))) j9)
noncomputable def b_Z3:MS:=(mseq (mset 2 (r6 m_Z21 (y0 (mvar 0) (y0 (mvar 1) anil)))) (mseq (mset 3 (r6 m_Z9 (y0 (mvar 0) (y0 (mvar 1) anil)))) (mseq (mset 4 (f9 max2F (y0 (mc (.int 0)) (y0 (m2 subD (mvar 2) (mc (.int 2))) anil)))) (mseq (mif (cor (v3 (m2 ltD (mix (mcat (bvar 3) (mrep (t5 (y0 (mix (bvar 3) (m1 negD (mc (.int 1)))) anil)) (mvar 4))) (mvar 4)) (mvar 2))) (v3 (m2 neSD (r6 m_Z5 (y0 (mvar 0) (y0 (r6 m_Z22 (y0 (mvar 0) (y0 (mvar 1) anil))) anil))) (mvar 4)))) (mret (mc (.bl false))) j9) (mseq (mfor (p8 rng1 (y0 (f9 S3 (y0 (mlen (bvar 3)) (y0 (mvar 4) anil))) anil)) (.nm 5) b_Z3_f0) (mret (mc (.bl true))))))))
noncomputable def m_Z3:MF:=runB 6 b_Z3
noncomputable def b_Z0:MS:=(mseq (W8 3 (t9 h9 0 (apu (y0 (mc (.int 6)) anil)))) (mseq (mset 4 (r6 m_Z1 (y0 (mvar 1) (y0 (mvar 2) (y0 (mvar 3) anil))))) (mseq (W8 5 (m2m subD (t9 h9 0 (apu (y0 (mc (.int 1001)) anil))) (mpu (mc (.int 500))))) (mseq (W8 6 (m2m addD (mpu (mc (.int 2))) (t9 h9 0 (apu (y0 (mc (.int 5)) anil))))) (mseq (mif (v3 (meqB true (p6 (r6 m_Z1 (y0 (mlst (i6 [none] (p6 (mvar 1)) (.nm 0) cyes (m2 subD (mc (.int 0)) (mvar 0)))) (y0 (mvar 2) (y0 (mvar 3) anil))))) (bvar 4))) (W0 0 (mpu (mc (.bl false)))) j9) (mseq (mif (v3 (meqB true (p6 (r6 m_Z1 (y0 (mlst (i6 [none,some 5,some 6] (p6 (mvar 1)) (.nm 0) cyes (m2 addD (m2 mulD (mvar 2) (mvar 0)) (mvar 1)))) (y0 (m2 mulD (mvar 6) (mvar 2)) (y0 (mvar 3) anil))))) (bvar 4))) (W0 0 (mpu (mc (.bl false)))) j9) (mseq (mif (v3 (meqB true (p6 (r6 m_Z9 (y0 (mlst (mrev (bvar 1) (V2 (m1 negD (mc (.int 1)))))) (y0 (mvar 2) anil)))) (p6 (r6 m_Z9 (y0 (mvar 1) (y0 (mvar 2) anil)))))) (W0 0 (mpu (mc (.bl false)))) j9) (mseq (W8 7 (mcallm m_Z1 (d7 (m2m addD (mpu (mvar 1)) (mlstm (d7 (m2m subD (t9 h9 0 (apu (y0 (mc (.int 41)) anil))) (mpu (mc (.int 20)))) (apu anil)))) (apu (y0 (mvar 2) (y0 (mvar 3) anil)))))) (W0 0 (mpu (mchain leD leD (mlen (bvar 4)) (mlen (bvar 7)) (m2 addD (mlen (bvar 4)) (mc (.int 1))))))))))))))
noncomputable def m_Z0:MG:=runG 8 b_Z0
noncomputable def M4:MS:=(mseq (W8 2 (D6 [none] (t9 m_Z14 1 (apu (y0 (mc (.int 25)) anil))) (.nm 0) cyes (m2 modD (mvar 0) (m2 powD (mc (.int 10)) (mc (.int 28)))))) (mseq (W8 3 (G1 S3 (d7 (t9 m_Z8 1 (apu anil)) (apu (y0 (m2 powD (mc (.int 10)) (mc (.int 28))) anil))))) (mseq (mif (cor (cnot (mtru (r6 m_Z4 (y0 (mvar 2) (y0 (mvar 3) anil))))) (cnot (mtru (r6 m_Z3 (y0 (mvar 2) (y0 (mvar 3) anil)))))) (mret (mc (.bl false))) j9) (mifm (cnotm (mtestm (t9 m_Z0 1 (apu (y0 (mvar 2) (y0 (mvar 3) anil)))))) (mret (mc (.bl false))) j9))))
noncomputable def b_Z24:MS:=(mseq (mforP (mcallP X0 (y0 (mlst (mcut (bvar 0) R9 (V2 (mc (.int 3))))) anil)) 1 M4) (mret (mc (.bl true))))
noncomputable def m_Z24:MF:=runB 4 b_Z24
end
end Lw
namespace Lw
open PySem L2
theorem eqS_ii (i j:Int):eqS (.int i) (.int j)=some (i==j):=rfl
theorem eqS_bb (i j:Bool):eqS (.bl i) (.bl j)=some (i==j):=rfl
theorem eqS_ss (i j:Str):eqS (.str i) (.str j)=some (i==j):=rfl
theorem eqS_nn:eqS .non .non=some true:=rfl
theorem eqS_nb (j:Bool):eqS .non (.bl j)=some false:=rfl
theorem eqS_bn (j:Bool):eqS (.bl j) .non=some false:=rfl
theorem eqS_ni (j:Int):eqS .non (.int j)=some false:=rfl
theorem eqS_in (j:Int):eqS (.int j) .non=some false:=rfl
local macro_rules|`(tactic|simp_arith [$ls,*])=>`(tactic|simp(config:={decide:=true,implicitDefEqProofs:=false}) only[runB,p9,List.map_cons,List.map_nil,List.length_cons,List.length_nil,List.replicate,List.cons_append,List.nil_append,mvar,bvar,mc,mlst,p6,m2,v3,subD,mulD,fdivD,modD,powD,ltD,leD,gtD,geD,eqSD,neSD,eqS_ii,eqS_bb,eqS_ss,eqS_nn,eqS_nb,eqS_bn,eqS_ni,eqS_in,m1,negD,mand,mtru,truD,cand,cor,cnot,anil,y0,t5,mtup,mlen,mix,R9,V2,mcut,mcat,addD,f9,absF,max2F,S3,two2,intF,j9,mseq,mif,D4,mset,Z0,maug,mexpr,mret,mretO,mapp,f6,e9,masg,p8,zip2,zip3,E2,cyes,r6,meqB,mrev,int2,bl2,tgD,M9,Option.bind_some,Option.map_some,Option.bind_none,Option.map_none,List.getElem?_cons_zero,List.getElem?_cons_succ,List.set_cons_zero,List.set_cons_succ,List.isEmpty_cons,List.isEmpty_nil,Bool.not_true,Bool.not_false,$ls,*])
noncomputable def stir (c k:Int):Int:=if 10^18<=c then (c-10^18) / 2^(28*k).toNat % 2^28 else
 (((c+1013*k+1)*16807 % 2147483647)*((c+1013*k+1)*16807 % 2147483647) % 2147483629)*39373 % 2147483587 / 8
theorem mulOk_r (i j:Int)(h1:-(2^64)<j)(h2:j<2^64):T0 i j=true:=by
 unfold T0;simp only[h1,h2,decide_true,Bool.and_self,Bool.or_true]
theorem mulOk_l (i j:Int)(h1:-(2^64)<i)(h2:i<2^64):T0 i j=true:=by
 unfold T0;simp only[h1,h2,decide_true,Bool.and_self,Bool.true_or]
theorem W1 (i j:Int)(h:0<j):modOk i j=true:=by unfold modOk;simp only[h,decide_true]
theorem seqI {x y:MS}{ρ ρ':Ro}{o:Option Out}(h:x ρ=some (.nx ρ'))(h2:y ρ'=o):mseq x y ρ=o:=by
 unfold mseq;rw[h];exact h2
noncomputable def stepO {α:Type}(I:List α->Ro->Prop)(Q:Out->Prop)(ds:List α):Out->Prop
 | .nx ρ=>I ds ρ| .ct ρ=>I ds ρ| .bk ρ=>Q (.nx ρ)| .rt d=>Q (.rt d)| .rf es=>Q (.rf es)| .rp d es=>Q (.rp d es)| .rg d p r=>Q (.rg d p r)| .rgf d p r=>Q (.rgf d p r)
theorem Q5 {q:Type}{g:Tg}{body:MS}{f:q->D}(I:List q->Ro->Prop)(Q:Out->Prop)
  (z:∀ d ds ρ,I (d::ds) ρ->∃ ρ1 o,tgD g (f d) ρ=some ρ1/\body ρ1=some o/\stepO I Q ds o) (hd:∀ ρ,I [] ρ->Q (.nx ρ)):
  ∀(ds:List q)(ρ:Ro),I ds ρ->∃ o,forD g body (ds.map f) ρ=some o/\Q o
 |[],ρ,h=>⟨.nx ρ,rfl,hd ρ h⟩
 |d::ds,ρ,h=>by
  obtain⟨ρ1,o,h1,h2,j⟩:=z d ds ρ h
  rw[List.map_cons]
  unfold forD
  rw[h1]
  simp only[h2]
  cases o with
  |nx i=>exact Q5 I Q z hd ds i j
  |ct i=>exact Q5 I Q z hd ds i j
  |bk i=>exact⟨_,rfl,j⟩
  |rt d=>exact⟨_,rfl,j⟩
  |rf d=>exact⟨_,rfl,j⟩
  |rp d es=>exact⟨_,rfl,j⟩
  |rg d p r=>exact⟨_,rfl,j⟩
  |rgf d p r=>exact⟨_,rfl,j⟩
theorem i9 {j:Type}{g:Tg}{c:MB}{i:ME}{f:j->D}{G:j->D}(I:List j->Ro->Prop)
  (q:∀ d ds ρ,I (d::ds) ρ->∃ ρ1,tgD g (f d) ρ=some ρ1/\c ρ1=some true/\i ρ1=some (G d)/\I ds ρ1):
  ∀(ds:List j)(ρ:Ro)(acc:List D),I ds ρ->acc.length+ds.length<=sizeLine->d9 g c i (ds.map f) ρ acc=some (acc++ds.map G)
 |[],ρ,acc,h,hl=>by simp[d9]
 |d::ds,ρ,acc,h,hl=>by
  obtain⟨ρ1,h1,h2,J,z⟩:=q d ds ρ h
  rw[List.map_cons]
  unfold d9
  rw[h1]
  simp only[h2,J]
  rw[List.length_cons]at hl
  rw[if_pos (by omega),i9 I q ds ρ1 _ z (by simp;omega)]
  simp
noncomputable def cutI {α:Type}(xs:List α)(lo hi:Option Int):List α:=(xs.drop (HT.sIx xs.length 0 lo)).take (HT.sIx xs.length xs.length hi-HT.sIx xs.length 0 lo)
theorem Q7 {i:Type}(f:i->D)(xs:List i)(lo hi:Option Int):cutL (xs.map f) lo hi=(cutI xs lo hi).map f:=by
 unfold cutL cutI;rw[List.length_map,<-List.map_drop,<-List.map_take]
theorem J8 {i:Type}(xs:List i)(k:Nat):cutI xs (some (k:Int)) none=xs.drop k:=by
 unfold cutI
 rw[HT.sIx_nat,HT.sIx_none]
 rcases Nat.le_total k xs.length with h|h
 .rw[Nat.min_eq_left h];exact List.take_of_length_le (by simp)
 .rw[Nat.min_eq_right h];simp[List.drop_eq_nil_of_le h]
theorem cutI_to {i:Type}(xs:List i)(k:Nat):cutI xs none (some (k:Int))=xs.take k:=by
 unfold cutI
 rw[HT.sIx_nat,HT.sIx_none]
 simp
theorem atI_map {i:Type}(f:i->D)(xs:List i)(k:Int)(q:0<=k)(h1:k<xs.length)(dflt:i):atI (xs.map f) k=some (f (xs.getD k.toNat dflt)):=by
 unfold atI ixN
 rw[List.length_map,if_pos q,if_pos h1]
 have j:k.toNat<xs.length:=by omega
 simp[List.getElem?_map,j]
theorem h8 {n:Nat}{m:MS}{ds:List D}{d:D}(h:m (p9 n ds)=some (.rt d)):runB n m ds=some (.sh d):=by unfold runB;rw[h]
theorem runB_rf {n:Nat}{m:MS}{ds:List D}{d:List D}(h:m (p9 n ds)=some (.rf d)):runB n m ds=some (.fr d):=by unfold runB;rw[h]
noncomputable def after (rest:MS):Out->Option Out
 | .nx ρ=>rest ρ| .bk ρ=>some (.bk ρ)| .ct ρ=>some (.ct ρ)| .rt d=>some (.rt d)| .rf d=>some (.rf d)| .rp d es=>some (.rp d es)| .rg d p r=>some (.rg d p r)| .rgf d p r=>some (.rgf d p r)
theorem k0 {x y:MS}{ρ:Ro}{o:Out}(h:x ρ=some o):mseq x y ρ=after y o:=by
 unfold mseq;rw[h];cases o <;> rfl
theorem seq_for {i:Type}{j:ML}{g:Tg}{body rest:MS}{ρ:Ro}{res:Option Out}{f:i->D}(ds:List i)(hi:j ρ=some (ds.map f))(I:List i->Ro->Prop)(Q:Out->Prop)(J:I ds ρ)
  (z:∀ d ds ρ,I (d::ds) ρ->∃ ρ1 o,tgD g (f d) ρ=some ρ1/\body ρ1=some o/\stepO I Q ds o) (hd:∀ ρ,I [] ρ->Q (.nx ρ)) (G:∀ o,Q o->after rest o=res):mseq (mfor j g body) rest ρ=res:=by
 obtain⟨o,e,q⟩:=Q5 (g:=g) (body:=body) I Q z hd ds ρ J
 rw[k0 (o:=o) (by unfold mfor;rw[hi];exact e)]
 exact G o q
theorem max_if (i j:Int):(if j>i then j else i)=max i j:=by omega
theorem min_if (i j:Int):(if j<i then j else i)=min i j:=by omega
theorem abs_if (i:Int):(if i<0 then -i else i)=(i.natAbs:Int):=by omega
theorem g0:1000000<=sizeLine:=by rw[show sizeLine=2^24 from rfl];decide
theorem v6 {n:Nat}(h:n<=1000000):n<=sizeLine:=Nat.le_trans h g0
theorem D1 (j n:Nat)(h:j<n):List.range' j (n-j)=j::List.range' (j+1) (n-(j+1)):=by
 have:n-j=(n-(j+1))+1:=by omega
 rw[this,List.range'_succ]
theorem mod_cases {x n:Int}(hn:0<n):0<=x % n/\x % n<n:=⟨Int.emod_nonneg _ (by omega),Int.emod_lt_of_pos _ hn⟩
noncomputable def Run (m:MS)(ρ:Ro)(R:Out->Prop):Prop:=∃ o,m ρ=some o/\R o
noncomputable def afterR (rest:MS)(R:Out->Prop):Out->Prop
 | .nx ρ=>Run rest ρ R| .bk ρ=>R (.bk ρ)| .ct ρ=>R (.ct ρ)| .rt d=>R (.rt d)| .rf d=>R (.rf d)| .rp d es=>R (.rp d es)| .rg d p r=>R (.rg d p r)| .rgf d p r=>R (.rgf d p r)
theorem u0 {x y:MS}{ρ ρ':Ro}{R:Out->Prop}(h:x ρ=some (.nx ρ'))(h2:Run y ρ' R):Run (mseq x y) ρ R:=by
 obtain⟨o,e,r⟩:=h2
 exact⟨o,seqI h e,r⟩
theorem j4 {x y:MS}{ρ:Ro}{R:Out->Prop}(h:Run x ρ (afterR y R)):Run (mseq x y) ρ R:=by
 obtain⟨o,e,r⟩:=h
 cases o with
 |nx ρ'=>exact u0 e r
 |bk ρ'=>exact⟨_,k0 e,r⟩
 |ct ρ'=>exact⟨_,k0 e,r⟩
 |rt d=>exact⟨_,k0 e,r⟩
 |rf d=>exact⟨_,k0 e,r⟩
 |rp d es=>exact⟨_,k0 e,r⟩
 |rg d j i=>exact⟨_,k0 e,r⟩
 |rgf d j i=>exact⟨_,k0 e,r⟩
theorem run_for {i:Type}{j:ML}{g:Tg}{body:MS}{ρ:Ro}{f:i->D}(ds:List i)(hi:j ρ=some (ds.map f))(I:List i->Ro->Prop)(Q:Out->Prop)(G:I ds ρ)
  (z:∀ d ds ρ,I (d::ds) ρ->∃ ρ1,tgD g (f d) ρ=some ρ1/\Run body ρ1 (stepO I Q ds)) (hd:∀ ρ,I [] ρ->Q (.nx ρ)):Run (mfor j g body) ρ Q:=by
 obtain⟨o,e,q⟩:=Q5 (g:=g) (body:=body) I Q (fun d ds ρ h=>by obtain⟨ρ1,a,o,b,c⟩:=z d ds ρ h;exact⟨ρ1,o,a,b,c⟩) hd ds ρ G
 exact⟨o,by unfold mfor;rw[hi];exact e,q⟩
theorem Z6 {G:ML}{g:Tg}{body:MS}{ρ:Ro}{f:Nat->D}(n:Nat)(hi:G ρ=some ((List.range n).map f))(I:Nat->Ro->Prop)(Q:Out->Prop)(M:I 0 ρ)
  (L:∀ j ρ,j<n->I j ρ->∃ ρ1,tgD g (f j) ρ=some ρ1/\Run body ρ1 (stepO (fun(_:List Unit) ρ=>I (j+1) ρ) Q [])) (hd:∀ ρ,I n ρ->Q (.nx ρ)):Run (mfor G g body) ρ Q:=by
 refine run_for (List.range n) hi (I:=fun ks ρ=>∃ j,j<=n/\ks=List.range' j (n-j)/\I j ρ) (Q:=Q) ⟨0,by omega,by rw[List.range_eq_range'];rfl,M⟩ ?_ ?_
 .rintro d ds ρ ⟨j,hj,e,h⟩
  have q:j<n:=by
   rcases Nat.lt_or_ge j n with z|z
   .exact z
   .rw[show n-j=0 by omega]at e;cases e
  rw[D1 j n q]at e
  obtain⟨e1,e2⟩:=List.cons.inj e
  subst e1
  obtain⟨ρ1,O,o,N,i⟩:=L d ρ q h
  refine⟨ρ1,O,o,N,?_⟩
  cases o with
  |nx r=>exact⟨d+1,by omega,e2,i⟩
  |ct r=>exact⟨d+1,by omega,e2,i⟩
  |bk r=>exact i
  |rt r=>exact i
  |rf r=>exact i
  |rp r r2=>exact i
  |rg r r2 J=>exact i
  |rgf r r2 J=>exact i
 .rintro ρ ⟨j,hj,e,h⟩
  have:n-j=0:=by
   rcases Nat.eq_zero_or_pos (n-j)with z|z
   .exact z
   .rw[D1 j n (by omega)]at e;cases e
  have:j=n:=by omega
  subst this
  exact hd ρ h
theorem h7 {i:Nat}{m:MS}{ρ:Ro}{ds:List D}{R:Out->Prop}(h:ρ[i]? =some (some (.own ds)))(h2:Run m (ρ.set i (some (.sh (.lst ds)))) R):Run (e9 i m) ρ R:=by
 obtain⟨o,e,r⟩:=h2
 exact⟨o,by unfold e9;rw[h];exact e,r⟩
theorem L0 {c:MB}{x y:MS}{ρ:Ro}{R:Out->Prop}{b:Bool}(h:c ρ=some b)(h2:Run (if b then x else y) ρ R):Run (mif c x y) ρ R:=by
 obtain⟨o,e,r⟩:=h2
 refine⟨o,?_,r⟩
 unfold mif;rw[h]
 cases b <;> exact e
theorem U1 {ρ:Ro}{R:Out->Prop}(h:R (.nx ρ)):Run j9 ρ R:=⟨_,rfl,h⟩
theorem nat_of {x:Int}(h:0<=x):∃ n:Nat,x=n:=⟨x.toNat,by omega⟩
theorem mand_bl {x y:ME}{ρ:Ro}{a b:Bool}(h1:x ρ=some (.bl a))(h2:y ρ=some (.bl b)):mand x y ρ=some (.bl (a&&b)):=by
 unfold mand;rw[h1];cases a <;> simp[h2]
theorem P4 (lo:Int)(n:Nat):W4 lo n=(List.range n).map fun(i:Nat)=>D.int (lo+(i:Int)):=rfl
theorem R1 (n:Nat):W4 0 n=((List.range n).map fun(i:Nat)=>(i:Int)).map .int:=by
 rw[P4,List.map_map]
 apply List.map_congr_left
 intro i _
 simp
theorem V5 {j:Int}(h1:-(2^62)<=j)(h2:j<2^62):okR j=true:=by unfold okR;simp only[h1,h2,decide_true,Bool.and_self]
theorem rng1_ok {j:Int}(h:okR j=true):rng1 [.int j]=some (W4 0 j.toNat):=by
 unfold rng1
 simp only[h,if_true]
theorem rng2_ok {i j:Int}(h:okR i=true)(h2:okR j=true):rng2 [.int i,.int j]=some (W4 i (j-i).toNat):=by
 unfold rng2
 simp only[h,h2,Bool.and_self,if_true]
theorem run_retO {i:Nat}{ρ:Ro}{ds:List D}{R:Out->Prop}(h:ρ[i]? =some (some (.own ds)))(h2:R (.rf ds)):Run (mretO i) ρ R:=⟨_,by unfold mretO;rw[h],h2⟩
theorem fdivOk_of (i j:Int)(h:0<j)(h2:j<1073741824):fdivOk i j=true:=by unfold fdivOk;simp only[h,h2,decide_true,Bool.and_self]
theorem J7:∀(η:List Int)(k:Nat),V9 k (η.map .int)=(List.range η.length).map fun(i:Nat)=>D.tup [.int ((k+i:Nat):Int),.int (η.getD i 0)]
 |[],k=>rfl
 |x::η,k=>by
  rw[List.map_cons,V9,J7 η (k+1),List.length_cons,List.range_succ_eq_map,List.map_cons,List.map_map]
  congr 1
  apply List.map_congr_left
  intro i _
  simp only[Function.comp,Nat.succ_eq_add_one,List.getD_cons_succ]
  rw[show k+1+i=k+(i+1)by omega]
theorem eq_nilT (ds:List D):eqFD true (.lst ds) (.lst [])=some (.bl (!ds.isEmpty)):=by
 unfold eqFD eqF
 cases ds with
 |nil=>rfl
 |cons d ds=>rfl
theorem cutI_len {i:Type}(xs:List i)(lo hi:Option Int):(cutI xs lo hi).length<=xs.length:=by
 unfold cutI;rw[List.length_take,List.length_drop];omega
theorem zipE_int (n:Nat):∀ xs:List Int,zipE (eqF (n+1)) (xs.map .int) (xs.map .int)=some true
 |[]=>rfl
 |x::xs=>by
  rw[List.map_cons,zipE,zipE_int n xs]
  show (some (x==x)).bind _=_
  rw[beq_self_eq_true];rfl
theorem eqF_li (n:Nat)(xs:List Int):eqF (n+2) (.lst (xs.map .int)) (.lst (xs.map .int))=some true:=by
 show (if _=_ then zipE (eqF (n+1)) (xs.map .int) (xs.map .int)else some false)=_
 rw[if_pos rfl,zipE_int]
theorem U2 {n:Nat}{m:MS}{ds:List D}{d:D}(h:Run m (p9 n ds) (fun o=>o= .rt d)):runB n m ds=some (.sh d):=by
 obtain⟨o,e,rfl⟩:=h
 exact h8 e
theorem Q2 {f:MF}{m:ML}{ρ:Ro}{ds es:List D}(h:m ρ=some ds)(h2:f ds=some (.fr es)):r6 f m ρ=some (.lst es):=by
 unfold r6;rw[h];show (match f ds with |some (.sh d)=>some d|some (.fr es)=>some (D.lst es)|some (.pr d es)=>some (.tup [d,.lst es])|none=>none)=_;rw[h2]
theorem w9 {f:MF}{m:ML}{ρ:Ro}{ds:List D}{d:D}(h:m ρ=some ds)(h2:f ds=some (.sh d)):r6 f m ρ=some d:=by
 unfold r6;rw[h];show (match f ds with |some (.sh d)=>some d|some (.fr es)=>some (D.lst es)|some (.pr d es)=>some (.tup [d,.lst es])|none=>none)=_;rw[h2]
theorem z8 {x:ME}{r:ML}{ρ:Ro}{d:D}{ds:List D}(h:x ρ=some d)(h2:r ρ=some ds):y0 x r ρ=some (d::ds):=by
 unfold y0;rw[h,h2];rfl
theorem y7 {ρ:Ro}:anil ρ=some []:=rfl
theorem C0 (η:List Int)(i:Nat)(h:i<η.length):atI (η.map D.int) (i:Int)=some (.int (η.getD i 0)):=by
 have:=atI_map D.int η (i:Int) (by omega) (by omega) 0
 rw[Int.toNat_natCast]at this
 exact this
theorem tlt_ev {x y:ME}{ρ:Ro}{i j:Int}(h1:x ρ=some (.int i))(h2:y ρ=some (.int j)):v3 (m2 ltD x y) ρ=some (decide (i<j)):=by
 unfold v3 m2;rw[h1,h2];rfl
theorem Y1 {i:Type}{g:Tg}{c:MB}{j:ME}{f:i->D}{p:i->Bool}{G:i->D}(I:List i->Ro->Prop)
  (q:∀ d ds ρ,I (d::ds) ρ->∃ ρ1,tgD g (f d) ρ=some ρ1/\c ρ1=some (p d)/\(p d=true->j ρ1=some (G d))/\I ds ρ1):
  ∀(ds:List i)(ρ:Ro)(acc:List D),I ds ρ->acc.length+ds.length<=sizeLine->d9 g c j (ds.map f) ρ acc=some (acc++(ds.filter p).map G)
 |[],ρ,acc,h,hl=>by simp[d9]
 |d::ds,ρ,acc,h,hl=>by
  obtain⟨ρ1,h1,h2,J,z⟩:=q d ds ρ h
  rw[List.length_cons]at hl
  rw[List.map_cons]
  unfold d9
  rw[h1]
  simp only[h2]
  cases hp:p d with
  |false=>
   simp only
   rw[Y1 I q ds ρ1 acc z (by omega),List.filter_cons,hp]
   rfl
  |true=>
   simp only[J hp]
   rw[if_pos (by omega),Y1 I q ds ρ1 _ z (by simp;omega),List.filter_cons,hp]
   simp
theorem eqB_nil {m:ML}{ρ:Ro}{ds:List D}(h:m ρ=some ds):v3 (meqB true m (t5 anil)) ρ=some (!ds.isEmpty):=by
 have i:0<=sizeLine:=Nat.zero_le _
 have e:t5 anil ρ=some []:=by simp_arith [i,if_true]
 unfold v3 meqB
 rw[h,e]
 simp only[Option.bind_some,eq_nilT]
theorem cor_ev {x y:MB}{ρ:Ro}{a b:Bool}(h1:x ρ=some a)(h2:y ρ=some b):cor x y ρ=some (a || b):=by
 unfold cor;rw[h1];cases a <;> simp[h2]
theorem cand_ev {x y:MB}{ρ:Ro}{a b:Bool}(h1:x ρ=some a)(h2:y ρ=some b):cand x y ρ=some (a&&b):=by
 unfold cand;rw[h1];cases a <;> simp[h2]
theorem i8 {i:Nat}{x:ME}{ρ:Ro}{d:D}(h:x ρ=some d):mset i x ρ=some (.nx (ρ.set i (some (.sh d)))):=by unfold mset;rw[h];rfl
theorem n5 {m:ML}{ρ:Ro}{ds:List D}(h:m ρ=some ds):mlst m ρ=some (.lst ds):=by unfold mlst;rw[h];rfl
theorem o8 {m:ML}{ρ:Ro}{ds:List D}(h:m ρ=some ds)(i:ds.length<=sizeLine):t5 m ρ=some ds:=by
 unfold t5;rw[h];show (if ds.length<=sizeLine then some ds else none)=_;rw[if_pos i]
theorem j0 {m:ML}{i:ME}{ρ:Ro}{ds:List D}{k:Int}{d:D}(h1:m ρ=some ds)(h2:i ρ=some (.int k))(j:atI ds k=some d):mix m i ρ=some d:=by
 unfold mix;rw[h1,h2];exact j
theorem o9 {m:ME}{ρ:Ro}{ds:List D}(h:m ρ=some (.lst ds)):p6 m ρ=some ds:=by unfold p6;rw[h]
theorem mcat_ev {x y:ML}{ρ:Ro}{ds es:List D}(h1:x ρ=some ds)(h2:y ρ=some es)(i:ds.length+es.length<=sizeLine):mcat x y ρ=some (ds++es):=by
 unfold mcat;rw[h1,h2];show (if ds.length+es.length<=sizeLine then some (ds++es)else none)=_;rw[if_pos i]
theorem mtup_ev {m:ML}{ρ:Ro}{ds:List D}(h:m ρ=some ds)(i:ds.length<=sizeLine):mtup m ρ=some (.tup ds):=by
 unfold mtup;rw[o8 h i];rfl
theorem S2 {x:ME}{ρ:Ro}{d:D}(h:x ρ=some d):mret x ρ=some (.rt d):=by unfold mret;rw[h];rfl
theorem filter_none {i:Type}(xs:List i):xs.filter (fun _=>false)=[]:=by
 induction xs with
 |nil=>rfl
 |cons x xs j=>rw[List.filter_cons];exact j
theorem eq_lst (xs:List Int):eqFD true (.lst (xs.map .int)) (.lst (xs.map .int))=some (.bl false):=by
 unfold eqFD
 rw[eqF_li 6];rfl
section
open PySem L2
theorem f7 {c:MB}{x y:MS}{ρ:Ro}{b:Bool}(h:c ρ=some b):mif c x y ρ=(if b then x else y) ρ:=by unfold mif;rw[h];cases b <;> rfl
theorem mexpr_ev {x:ME}{ρ:Ro}{d:D}(h:x ρ=some d):mexpr x ρ=some (.nx ρ):=by unfold mexpr;rw[h];rfl
theorem tI_ev {x:ME}{ρ:Ro}{i k:Int}(h:x ρ=some (.int i)):v3 (m2 eqSD x (mc (.int k))) ρ=some (i==k):=by unfold v3 m2 mc;rw[h];rfl
theorem tLt_ev {x y:ME}{ρ:Ro}{i k:Int}(h:x ρ=some (.int i))(h2:y ρ=some (.int k)):v3 (m2 ltD x y) ρ=some (decide (i<k)):=by unfold v3 m2;rw[h,h2];rfl
end
section
open PySem L2
noncomputable def lx:List Nat->List Nat->Bool
 |[],[]=>false
 |[],_::_=>true
 |_::_,[]=>false
 |a::l,b::m=>decide (a<b) || (a==b&&lx l m)
noncomputable def m6 (l m:List Nat):Bool:=decide (m.length<l.length) || (l.length==m.length&&lx l m)
theorem lx_irr:∀ l,lx l l=false
 |[]=>rfl
 |a::l=>by unfold lx;simp[lx_irr l]
theorem lx_trans:∀{a b c:List Nat},lx a b=true->lx b c=true->lx a c=true
 |[],[],_,h,_=>by cases h
 |[],_::_,[],_,h=>by cases h
 |[],_::_,_::_,_,_=>rfl
 |_::_,[],_,h,_=>by cases h
 |_::_,_::_,[],_,h=>by cases h
 |a::l,b::m,c::k,h1,h2=>by
  unfold lx at*
  simp only[Bool.or_eq_true,Bool.and_eq_true,decide_eq_true_eq,beq_iff_eq]at*
  rcases h1 with h1|⟨rfl,h1⟩ <;> rcases h2 with h2|⟨rfl,h2⟩
  .exact .inl (by omega)
  .exact .inl h1
  .exact .inl h2
  .exact .inr ⟨rfl,lx_trans h1 h2⟩
theorem lx_tri:∀(a b:List Nat),a=b\/lx a b=true\/lx b a=true
 |[],[]=>.inl rfl
 |[],_::_=>.inr (.inl rfl)
 |_::_,[]=>.inr (.inr rfl)
 |a::l,b::m=>by
  unfold lx
  simp only[Bool.or_eq_true,Bool.and_eq_true,decide_eq_true_eq,beq_iff_eq]
  rcases Nat.lt_trichotomy a b with h|h|h
  .exact .inr (.inl (.inl h))
  .subst h
   rcases lx_tri l m with h|h|h
   .exact .inl (by rw[h])
   .exact .inr (.inl (.inr ⟨rfl,h⟩))
   .exact .inr (.inr (.inr ⟨rfl,h⟩))
  .exact .inr (.inr (.inl h))
theorem k7 (l m:List Nat):m6 l m=true↔m.length<l.length\/(l.length=m.length/\lx l m=true):=by
 unfold m6
 simp only[Bool.or_eq_true,Bool.and_eq_true,decide_eq_true_eq,beq_iff_eq]
theorem Z5 {a b c:List Nat}(h1:m6 a b=true)(h2:m6 b c=true):m6 a c=true:=by
 rw[k7]at*
 rcases h1 with h1|⟨h1,j⟩ <;> rcases h2 with h2|⟨h2,i⟩
 .exact .inl (by omega)
 .exact .inl (by omega)
 .exact .inl (by omega)
 .exact .inr ⟨by omega,lx_trans j i⟩
theorem P2 (a b:List Nat):a=b\/m6 a b=true\/m6 b a=true:=by
 rw[k7,k7]
 rcases Nat.lt_trichotomy a.length b.length with h|h|h
 .exact .inr (.inr (.inl h))
 .rcases lx_tri a b with z|z|z
  .exact .inl z
  .exact .inr (.inl (.inr ⟨h,z⟩))
  .exact .inr (.inr (.inr ⟨h.symm,z⟩))
 .exact .inr (.inl (.inl h))
theorem X4 (a:List Nat):m6 a a=false:=by
 unfold m6;simp[lx_irr]
theorem C1 (p:Nat)(a b:List Nat):m6 (p::a) (p::b)=m6 a b:=by
 unfold m6
 simp[lx]
noncomputable def Best (P:List Nat->Prop)(l:List Nat):Prop:=P l/\∀ m,P m->m6 m l=false
theorem Best.unique {P:List Nat->Prop}{l m:List Nat}(a:Best P l)(b:Best P m):l=m:=by
 rcases P2 l m with h|h|h
 .exact h
 .have:=b.2 l a.1;rw[h]at this;cases this
 .have:=a.2 m b.1;rw[h]at this;cases this
theorem Best.iff {P Q:List Nat->Prop}{l:List Nat}(a:Best P l)(h:∀ m,P m↔Q m):Best Q l:=⟨(h l).mp a.1,fun m hm=>a.2 m ((h m).mpr hm)⟩
theorem Best.len {P:List Nat->Prop}{l:List Nat}(a:Best P l)(m:List Nat)(h:P m):m.length<=l.length:=by
 have:=a.2 m h
 rcases Nat.lt_or_ge l.length m.length with z|z
 .rw[(k7 m l).mpr (.inl z)]at this;cases this
 .exact z
noncomputable def far (s:Int)(d:Bool)(a b:Int):Prop:=if d then s<=b-a else s<=a-b
noncomputable instance (s:Int) (d:Bool) (a b:Int):Decidable (far s d a b):=by unfold far;exact inferInstance
noncomputable def Wd (x:Nat->Int)(n:Nat)(s:Int):Bool->List Nat->Prop
 |_,[]=>False
 |_,[p]=>p<n
 |d,p::q::l=>p<q/\far s d (x p) (x q)/\Wd x n s (!d) (q::l)
noncomputable def Wv (x:Nat->Int)(n:Nat)(s:Int)(l:List Nat):Prop:=l=[]\/∃ d,Wd x n s d l
noncomputable def Hd (p:Nat)(l:List Nat):Prop:=∃ m,l=p::m
noncomputable def From (x:Nat->Int)(n:Nat)(s:Int)(d:Bool)(p t:Nat)(l:List Nat):Prop:=Wd x n s d l/\(l=[p]\/∃ q m,l=p::q::m/\q<=t)
variable {x:Nat->Int}{n:Nat}{s:Int}
theorem Wd.lt:∀{l:List Nat}{d:Bool}{p:Nat},Wd x n s d (p::l)->p<n
 |[],d,p,h=>h
 |q::l,d,p,h=>Nat.lt_trans h.1 h.2.2.lt
theorem Wd.len:∀{l:List Nat}{d:Bool}{p:Nat},Wd x n s d (p::l)->l.length+p<n
 |[],d,p,h=>by have h:p<n:=h;simpa using h
 |q::l,d,p,h=>by
  have:=h.2.2.len
  have:=h.1
  simp;omega
theorem from_one {d:Bool}{p:Nat}(hp:p<n):Best (From x n s d p p) [p]:=by
 refine⟨⟨hp,.inl rfl⟩,?_⟩
 rintro m ⟨h1,h2⟩
 rcases h2 with rfl|⟨q,m,rfl,i⟩
 .exact X4 _
 .have:=h1.1;omega
theorem from_step {d:Bool}{p q:Nat}{U T:List Nat}(N:p<q)(i:Best (From x n s d p (q-1)) U)(j:Best (From x n s (!d) q n) T)(M:Decidable (far s d (x p) (x q))):
  Best (From x n s d p q) (if far s d (x p) (x q)/\U.length<=T.length then p::T else U):=by
 have G:∃ m,T=q::m:=by
  rcases j.1.2 with h|⟨r,m,h,_⟩
  .exact⟨_,h⟩
  .exact⟨_,h⟩
 have low:∀ m,From x n s d p (q-1) m->From x n s d p q m:=fun m h=>⟨h.1,h.2.imp id fun⟨r,m,e,L⟩=>⟨r,m,e,by omega⟩⟩
 have split:∀ m,From x n s d p q m->From x n s d p (q-1) m\/∃ k,m=p::k/\far s d (x p) (x q)/\From x n s (!d) q n k:=by
  rintro m ⟨h1,h2⟩
  rcases h2 with rfl|⟨r,m,rfl,L⟩
  .exact .inl ⟨h1,.inl rfl⟩
  .rcases Nat.lt_or_ge r q with z|z
   .exact .inl ⟨h1,.inr ⟨r,m,rfl,by omega⟩⟩
   .have:r=q:=by omega
    subst this
    refine .inr ⟨_,rfl,h1.2.1,h1.2.2,?_⟩
    cases m with
    |nil=>exact .inl rfl
    |cons t m=>exact .inr ⟨t,m,rfl,Nat.le_of_lt h1.2.2.2.2.lt⟩
 obtain⟨R,I⟩:=G
 split
 .rename_i h
  refine⟨⟨?_,?_⟩,fun m hm=>?_⟩
  .rw[I];exact⟨N,h.1,by rw[<-I];exact j.1.1⟩
  .exact .inr ⟨q,R,by rw[I],Nat.le_refl _⟩
  .rcases split m hm with z|⟨k,rfl,_,z⟩
   .have:=i.len m z
    cases e:m6 m (p::T)with
    |false=>rfl
    |true=>
     rw[k7]at e
     simp only[List.length_cons]at e
     omega
   .rw[C1];exact j.2 k z
 .rename_i h
  refine⟨low _ i.1,fun m hm=>?_⟩
  rcases split m hm with z|⟨k,rfl,O,z⟩
  .exact i.2 m z
  .have hl:¬ U.length<=T.length:=fun w=>h ⟨O,w⟩
   have:=j.len k z
   cases e:m6 (p::k) U with
   |false=>rfl
   |true=>
    rw[k7]at e
    simp only[List.length_cons]at e
    rcases e with e|⟨e1,e2⟩
    .omega
    .rcases i.1.2 with w|⟨r,m,w,L⟩
     .have:k.length=0:=by rw[w]at e1;simpa using e1
      rcases z.2 with y|⟨_,_,y,_⟩ <;> (rw[y]at this;simp at this)
     .have hk:∃ J,k=q::J:=by
       rcases z.2 with y|⟨_,_,y,_⟩
       .exact⟨_,y⟩
       .exact⟨_,y⟩
      obtain⟨J,rfl⟩:=hk
      rw[w]at e2
      unfold lx at e2
      simp only[Nat.lt_irrefl,decide_false,beq_self_eq_true,Bool.true_and,Bool.false_or]at e2
      unfold lx at e2
      simp only[Bool.or_eq_true,Bool.and_eq_true,decide_eq_true_eq,beq_iff_eq]at e2
      omega
theorem from_all {d:Bool}{p t:Nat}{l:List Nat}(h:Best (From x n s d p t) l)(j:n<=t+1):Best (From x n s d p n) l:=
 h.iff fun m=>⟨fun a=>⟨a.1,a.2.imp id fun⟨q,k,e,i⟩=>⟨q,k,e,by rw[e]at a;exact Nat.le_of_lt a.1.2.2.lt⟩⟩,fun a=>⟨a.1,a.2.imp id fun⟨q,k,e,i⟩=>⟨q,k,e,by rw[e]at a;have:=a.1.2.2.lt;omega⟩⟩⟩
theorem from_skip {d:Bool}{p t t':Nat}{l:List Nat}(h:Best (From x n s d p t) l)(i:t=t'):Best (From x n s d p t') l:=i ▸ h
theorem wd_from {d:Bool}{p:Nat}{l:List Nat}(h:Wd x n s d (p::l)):From x n s d p n (p::l):=⟨h,by
 cases l with
 |nil=>exact .inl rfl
 |cons q l=>exact .inr ⟨q,l,rfl,Nat.le_of_lt h.2.2.lt⟩⟩
theorem best_all {l:List Nat}{q:List (List Nat)}(hm:l∈q)(i:∀ m∈q,m6 m l=false)(hw:∀ m∈q,Wv x n s m)(j:∀ d p,p<n->∃ m∈q,Best (From x n s d p n) m)(hn:l≠[]):Best (Wv x n s) l:=by
 refine⟨hw l hm,fun m h=>?_⟩
 rcases h with rfl|⟨d,h⟩
 .cases e:m6 [] l with
  |false=>rfl
  |true=>
   rw[k7]at e
   simp only[List.length_nil]at e
   rcases e with e|⟨e,_⟩
   .omega
   .exact absurd (List.length_eq_zero_iff.mp e.symm) hn
 .cases m with
  |nil=>exact h.elim
  |cons p m=>
   obtain⟨k,G,I⟩:=j d p h.lt
   have h1:=I.2 _ (wd_from h)
   have h2:=i k G
   cases e:m6 (p::m) l with
   |false=>rfl
   |true=>
    rcases P2 k (p::m)with z|z|z
    .rw[<-z,h2]at e;cases e
    .rw[Z5 z e]at h2;cases h2
    .rw[z]at h1;cases h1
theorem best_none (hn:n=0):Best (Wv x n s) []:=by
 refine⟨.inl rfl,fun m h=>?_⟩
 rcases h with rfl|⟨d,h⟩
 .rfl
 .cases m with
  |nil=>exact h.elim
  |cons p m=>have:=h.lt;omega
end
section
open PySem L2
noncomputable def dN (p:Nat):D:=.int (p:Int)
noncomputable def L (l:List Nat):D:=.lst (l.map dN)
noncomputable def Ky (l:List Nat):D:=.tup [.int (-(l.length:Int)),L l]
theorem eqF_nn (k:Nat)(a b:Nat):eqF (k+1) (dN a) (dN b)=some (a==b):=by
 show some ((a:Int)==(b:Int))=_
 congr 1
 rw[Bool.eq_iff_iff,beq_iff_eq,beq_iff_eq]
 omega
theorem zipE_nn (k:Nat):∀(l m:List Nat),l.length=m.length->zipE (eqF (k+1)) (l.map dN) (m.map dN)=some (l==m)
 |[],[],_=>rfl
 |[],_::_,h=>by cases h
 |_::_,[],h=>by cases h
 |a::l,b::m,h=>by
  rw[List.map_cons,List.map_cons,zipE,eqF_nn,zipE_nn k l m (by simpa using h)]
  rfl
theorem lexF_nn (k:Nat):∀(l m:List Nat),lexF (eqF (k+1)) (ltF (k+1)) (l.map dN) (m.map dN)=some (lx l m)
 |[],[]=>rfl
 |[],_::_=>rfl
 |_::_,[]=>rfl
 |a::l,b::m=>by
  rw[List.map_cons,List.map_cons,lexF,eqF_nn]
  unfold lx
  by_cases h:a=b
  .subst h
   simp only[beq_self_eq_true,Nat.lt_irrefl,decide_false,Bool.true_and,Bool.false_or]
   exact lexF_nn k l m
  .have e:(a==b)=false:=by simpa using h
   rw[e]
   simp only[Bool.false_and,Bool.or_false]
   show some (decide ((a:Int)<(b:Int)))=_
   congr 1
   apply decide_eq_decide.mpr
   omega
theorem lt_key (l m:List Nat):ltF 8 (Ky l) (Ky m)=some (m6 l m):=by
 show lexF (eqF 7) (ltF 7) [.int (-(l.length:Int)),L l] [.int (-(m.length:Int)),L m]=_
 rw[lexF,show eqF 7 (.int (-(l.length:Int))) (.int (-(m.length:Int)))=some (-(l.length:Int)== -(m.length:Int))from rfl]
 unfold m6
 by_cases h:l.length=m.length
 .rw[h]
  simp only[beq_self_eq_true,Nat.lt_irrefl,decide_false,Bool.true_and,Bool.false_or]
  have e:eqF 7 (L l) (L m)=some (l==m):=by
   show (if (l.map dN).length=(m.map dN).length then zipE (eqF 6) (l.map dN) (m.map dN)else some false)=_
   rw[if_pos (by simpa using h),zipE_nn 5 l m h]
  rw[lexF,e]
  by_cases i:l=m
  .subst i
   simp only[beq_self_eq_true]
   rw[lx_irr];rfl
  .have e2:(l==m)=false:=by simpa using i
   rw[e2]
   exact lexF_nn 5 l m
 .have e:(-(l.length:Int)== -(m.length:Int))=false:=by
   rw[beq_eq_false_iff_ne];omega
  have e2:(l.length==m.length)=false:=by simpa using h
  rw[e,e2]
  simp only[Bool.false_and,Bool.or_false]
  show some (decide (-(l.length:Int) < -(m.length:Int)))=_
  congr 1
  apply decide_eq_decide.mpr
  omega
theorem N7 {mk:D->Option D}(q:∀ l,mk (L l)=some (Ky l)):∀(j:List (List Nat))(b:List Nat),∃ r,minF mk (j.map L) (L b) (Ky b)=some (L r)/\r∈b::j/\∀ m∈b::j,m6 m r=false
 |[],b=>⟨b,rfl,by simp,by simp[X4]⟩
 |m::j,b=>by
  rw[List.map_cons]
  unfold minF
  rw[q m]
  simp only[lt_key m b]
  cases h:m6 m b with
  |true=>
   obtain⟨r,e,h1,h2⟩:=N7 q j m
   refine⟨r,e,List.mem_cons_of_mem _ h1,fun k i=>?_⟩
   rcases List.mem_cons.mp i with rfl|i
   .cases z:m6 k r with
    |false=>rfl
    |true=>have:=h2 m (by simp);rw[Z5 h z]at this;cases this
   .exact h2 k i
  |false=>
   obtain⟨r,e,h1,h2⟩:=N7 q j b
   refine⟨r,e,?_,fun k i=>?_⟩
   .rcases List.mem_cons.mp h1 with h1|h1
    .simp[h1]
    .simp[h1]
   .have hb:=h2 b (by simp)
    rcases List.mem_cons.mp i with rfl|i
    .exact hb
    .rcases List.mem_cons.mp i with rfl|i
     .cases z:m6 k r with
      |false=>rfl
      |true=>
       rcases P2 k b with w|w|w
       .rw[w,hb]at z;cases z
       .rw[h]at w;cases w
       .rw[Z5 w z]at hb;cases hb
     .exact h2 k (List.mem_cons_of_mem _ i)
noncomputable abbrev xr (η:List Int):Nat->Int:=fun i=>η.getD i 0
noncomputable def envU (η:List Int)(s:Int)(U V:List (List Nat))(o4 o5 o6:Option S):Ro:=[k0a η,k0c s,some (.own (U.map L)),some (.own (V.map L)),o4,o5,o6]
theorem E7 {x y:ME}{ρ:Ro}{i j:Int}(h1:x ρ=some (.int i))(h2:y ρ=some (.int j)):v3 (m2 geD x y) ρ=some (decide (j<=i)):=by
 unfold v3 m2;rw[h1,h2];rfl
theorem l7 {m:ML}{ρ:Ro}{ds:List D}(h:m ρ=some ds):mlen m ρ=some (.int ds.length):=by unfold mlen;rw[h];rfl
theorem at_L (U:List (List Nat))(p:Nat)(h:p<U.length):atI (U.map L) (p:Int)=some (L (U.getD p [])):=by
 have:=atI_map L U (p:Int) (by omega) (by omega) []
 rw[Int.toNat_natCast]at this
 exact this
theorem ixN_nat (n p:Nat)(h:p<n):ixN n (p:Int)=some p:=by
 unfold ixN
 rw[if_pos (by omega),if_pos (by omega),Int.toNat_natCast]
noncomputable def upU (s:Int)(η:List Int)(d:Bool)(U V:List (List Nat))(p q:Nat):List (List Nat):=
 if (if d then s<=xr η q-xr η p else s<=xr η p-xr η q)/\(U.getD p []).length<=(V.getD q []).length then U.set p (p::V.getD q [])else U
theorem upU_len (s:Int)(η:List Int)(d:Bool)(U V:List (List Nat))(p q:Nat):(upU s η d U V p q).length=U.length:=by
 unfold upU
 by_cases i:((if d then s<=xr η q-xr η p else s<=xr η p-xr η q)/\(U.getD p []).length<=(V.getD q []).length)
 .rw[if_pos i,List.length_set]
 .rw[if_neg i]
theorem upU_ne (s:Int)(η:List Int)(d:Bool)(U V:List (List Nat))(p q r:Nat)(h:p≠r):(upU s η d U V p q).getD r []=U.getD r []:=by
 rw[List.getD_eq_getElem?_getD,List.getD_eq_getElem?_getD]
 unfold upU
 by_cases i:((if d then s<=xr η q-xr η p else s<=xr η p-xr η q)/\(U.getD p []).length<=(V.getD q []).length)
 .rw[if_pos i,List.getElem?_set_ne h]
 .rw[if_neg i]
theorem W2 (U:List (List Nat))(p q:Nat)(l:List Nat)(h:p≠q):(U.set p l).getD q []=U.getD q []:=by
 rw[List.getD_eq_getElem?_getD,List.getD_eq_getElem?_getD,List.getElem?_set_ne h]
theorem i4 (U:List (List Nat))(p:Nat)(l:List Nat)(h:p<U.length):(U.set p l).getD p []=l:=by
 rw[List.getD_eq_getElem?_getD,List.getElem?_set_self h];rfl
theorem tails_body (η:List Int)(s:Int)(U V:List (List Nat))(p q:Nat)(G:Option S)(R:U.length=η.length)(O:V.length=η.length)(hp:p<η.length)(hq:q<η.length)(bU:(U.getD q []).length<=1000)(bV:(V.getD q []).length<=1000)(M:p≠q):
  ∃ J,b_Z23_f0 (envU η s U V (k0b p) (k0b q) G)=some (.nx (envU η s (upU s η true U V p q) (upU s η false V U p q) (k0b p) (k0b q) J)):=by
 have a0:=g0
 have ap:=C0 η p hp
 have aq:=C0 η q hq
 have i1:0+1<=sizeLine:=v6 (by decide)
 refine⟨some (.sh (.int (xr η q-xr η p))),?_⟩
 unfold b_Z23_f0
 refine seqI (ρ':=envU η s U V (k0b p) (k0b q) (some (.sh (.int (xr η q-xr η p))))) ?_ ?_
 .unfold envU
  simp_arith [ap,aq]
 have go:∀(i I:Nat)(A B:List (List Nat))(ρ:Ro),ρ[i]? =some (some (.own (A.map L)))->ρ[I]? =some (some (.own (B.map L)))->ρ[4]? =some (k0b p)->ρ[5]? =some (k0b q)->A.length=η.length->B.length=η.length->(B.getD q []).length<=1000->
   (v3 (m2 geD (mlen (p6 (mix (bvar I) (mvar 5)))) (mlen (p6 (mix (bvar i) (mvar 4))))) ρ=some (decide ((A.getD p []).length<=(B.getD q []).length)))/\
   f6 i (mvar 4) (mlst (mcat (t5 (y0 (mvar 4) anil)) (p6 (mix (bvar I) (mvar 5))))) ρ=some (.nx (ρ.set i (some (.own ((A.set p (p::B.getD q [])).map L))))):=by
  intro i I A B ρ Y hB h4 h5 lA lB bB
  have eA:bvar i ρ=some (A.map L):=by unfold bvar;rw[Y]
  have eB:bvar I ρ=some (B.map L):=by unfold bvar;rw[hB]
  have N:mvar 4 ρ=some (.int (p:Int)):=by unfold mvar;rw[h4]
  have e5:mvar 5 ρ=some (.int (q:Int)):=by unfold mvar;rw[h5]
  have fB:p6 (mix (bvar I) (mvar 5)) ρ=some ((B.getD q []).map dN):=o9 (j0 eB e5 (at_L B q (by omega)))
  have fA:p6 (mix (bvar i) (mvar 4)) ρ=some ((A.getD p []).map dN):=o9 (j0 eA N (at_L A p (by omega)))
  constructor
  .rw[E7 (l7 fB) (l7 fA)]
   congr 1
   apply decide_eq_decide.mpr
   rw[List.length_map,List.length_map]
   omega
  .have ev:mlst (mcat (t5 (y0 (mvar 4) anil)) (p6 (mix (bvar I) (mvar 5)))) ρ=some (L (p::B.getD q [])):=by
    rw[n5 (mcat_ev (o8 (z8 N y7) i1) fB (by rw[List.length_map,List.length_singleton];omega))]
    rfl
   unfold f6
   rw[ev,Y,N]
   show ((ixN (A.map L).length (p:Int)).map fun j=>Out.nx (ρ.set i (some (.own ((A.map L).set j (L (p::B.getD q [])))))))=_
   rw[List.length_map,ixN_nat _ _ (by omega)]
   show some (Out.nx _)=_
   rw[List.map_set]
 have t1:∀ A B G,v3 (m2 geD (mvar 6) (mvar 1)) (envU η s A B G (k0b q) (some (.sh (.int (xr η q-xr η p)))))=some (decide (s<=xr η q-xr η p)):=fun A B G=>E7 rfl rfl
 have t2:∀ A B G,v3 (m2 geD (m1 negD (mvar 6)) (mvar 1)) (envU η s A B G (k0b q) (some (.sh (.int (xr η q-xr η p)))))=some (decide (s<= -(xr η q-xr η p))):=fun A B G=>E7 rfl rfl
 obtain⟨c1,c2⟩:=go 2 3 U V (envU η s U V (k0b p) (k0b q) (some (.sh (.int (xr η q-xr η p))))) rfl rfl rfl rfl R O bV
 refine seqI (ρ':=envU η s (upU s η true U V p q) V (k0b p) (k0b q) (some (.sh (.int (xr η q-xr η p))))) ?_ ?_
 .unfold mif
  rw[cand_ev (t1 _ _ _) c1]
  unfold upU
  by_cases h:s<=xr η q-xr η p/\(U.getD p []).length<=(V.getD q []).length
  .rw[if_pos (by simpa using h),decide_eq_true h.1,decide_eq_true h.2]
   exact c2
  .rw[if_neg (by simpa using h)]
   have:(decide (s<=xr η q-xr η p)&&decide ((U.getD p []).length<=(V.getD q []).length))=false:=by
    rw[Bool.eq_false_iff]
    intro z
    rw[Bool.and_eq_true,decide_eq_true_eq,decide_eq_true_eq]at z
    exact h z
   rw[this]
   rfl
 .have hU':(upU s η true U V p q).length=η.length:=by rw[upU_len];exact R
  have Z:(upU s η true U V p q).getD q []=U.getD q []:=upU_ne _ _ _ _ _ _ _ _ M
  obtain⟨d1,d2⟩:=go 3 2 V (upU s η true U V p q) (envU η s (upU s η true U V p q) V (k0b p) (k0b q) (some (.sh (.int (xr η q-xr η p))))) rfl rfl rfl rfl O hU' (by rw[Z];exact bU)
  rw[Z]at d1 d2
  unfold mif
  rw[cand_ev (t2 _ _ _) d1]
  have ex:upU s η false V U p q=if s<=xr η p-xr η q/\(V.getD p []).length<=(U.getD q []).length then V.set p (p::U.getD q [])else V:=by
   unfold upU;simp
  rw[ex]
  by_cases h:s<=xr η p-xr η q/\(V.getD p []).length<=(U.getD q []).length
  .rw[if_pos h,decide_eq_true (show s<= -(xr η q-xr η p)by omega),decide_eq_true h.2]
   exact d2
  .rw[if_neg h]
   have:(decide (s<= -(xr η q-xr η p))&&decide ((V.getD p []).length<=(U.getD q []).length))=false:=by
    rw[Bool.eq_false_iff]
    intro z
    rw[Bool.and_eq_true,decide_eq_true_eq,decide_eq_true_eq]at z
    exact h ⟨by omega,z.2⟩
   rw[this]
   rfl
end
section
open PySem L2
theorem g7 (step:Int)(h:1<=step):J2 [.int step]=some (.sh .non):=by
 have:¬ step<1:=by omega
 unfold J2 b_Z16
 simp_arith [this,decide_false]
noncomputable def pok (n:Nat):Int->List Int->Bool
 |_,[]=>true
 |l,p::ps=>if p<l\/(n:Int)<=p then false else pok n (p+1) ps
theorem are_places_eq (η i:List Int):m_Z17 [.lst (η.map .int),.lst (i.map .int)]=some (.sh (.bl (pok η.length 0 i))):=by
 unfold m_Z17 b_Z17
 refine h8 ?_
 ((apply seqI;focus (simp_arith [];rfl)))
 refine seq_for i (f:=D.int) (by simp_arith []) (I:=fun ps ρ=>∃ l x,ρ=[k0a η,k0a i,k0c l,x]/\pok η.length 0 i=pok η.length l ps)
  (Q:=fun o=>(∃ ρ,o= .nx ρ/\pok η.length 0 i=true)\/(o= .rt (.bl false)/\pok η.length 0 i=false)) ⟨0,none,rfl,rfl⟩ ?_ ?_ ?_
 .rintro p ps ρ ⟨l,x,rfl,e⟩
  simp only[pok]at e
  by_cases h1:p<l
  .rw[if_pos (Or.inl h1)]at e
   exact⟨_,.rt (.bl false),rfl,by unfold M5;simp_arith [List.length_map,h1,decide_true],Or.inr ⟨rfl,e⟩⟩
  .by_cases h2:(η.length:Int)<=p
   .rw[if_pos (Or.inr h2)]at e
    exact⟨_,.rt (.bl false),rfl,by unfold M5;simp_arith [List.length_map,h1,h2,decide_true,decide_false],Or.inr ⟨rfl,e⟩⟩
   .rw[if_neg (by omega)]at e
    exact⟨_,.nx _,rfl,by unfold M5;simp_arith [List.length_map,h1,h2,decide_true,decide_false];rfl,_,_,rfl,e⟩
 .rintro ρ ⟨l,x,rfl,e⟩
  exact Or.inl ⟨_,rfl,e⟩
 .rintro o (⟨ρ,rfl,e⟩|⟨rfl,e⟩)
  .rw[e];rfl
  .rw[e];rfl
noncomputable def turn (t:Int×Int×Int):Bool:=decide (max t.1 t.2.2<t.2.1) || decide (t.2.1<min t.1 t.2.2)
noncomputable def trip:List Int->List (Int×Int×Int)
 |a::b::c::r=>(a,b,c)::trip (b::c::r)
 |_=>[]
theorem E4:∀ ns:List Int,N1 (ns.map .int) ((ns.drop 1).map .int) ((ns.drop 2).map .int)=(trip ns).map fun t=>.tup [.int t.1,.int t.2.1,.int t.2.2]
 |[]=>rfl
 |[_]=>rfl
 |[_,_]=>rfl
 |a::b::c::r=>by
  have:=E4 (b::c::r)
  simp only[List.drop_succ_cons,List.drop_zero,List.map_cons]at this
  simp only[List.drop_succ_cons,List.drop_zero,List.map_cons,trip,N1,List.cons.injEq,true_and]
  exact this
theorem turns_of_eq (ns:List Int):m_Z19 [.lst (ns.map .int)]=some (.sh (.int (((trip ns).filter turn).length:Nat))):=by
 unfold m_Z19 b_Z19
 refine h8 ?_
 ((apply seqI;focus (simp_arith [];rfl)))
 have h1:cutI ns (some 1) none=ns.drop 1:=J8 ns 1
 have h2:cutI ns (some 2) none=ns.drop 2:=J8 ns 2
 refine seq_for (trip ns) (f:=fun t=>.tup [.int t.1,.int t.2.1,.int t.2.2]) (by simp_arith [Q7,h1,h2,E4]) (I:=fun j ρ=>∃ k:Nat,∃ x y z,ρ=[k0a ns,some (.sh (.int (k:Nat))),x,y,z]/\((trip ns).filter turn).length=k+(j.filter turn).length)
  (Q:=fun o=>∃ x y z,o= .nx [k0a ns,some (.sh (.int (((trip ns).filter turn).length:Nat))),x,y,z]) ⟨0,none,none,none,rfl,by simp⟩ ?_ ?_ ?_
 .rintro⟨a,b,c⟩ j ρ ⟨k,x,y,z,rfl,e⟩
  refine⟨_,.nx [k0a ns,some (.sh (.int ((k+if turn (a,b,c)then 1 else 0:Nat):Nat))),k0c a,k0c b,k0c c],rfl,?_,?_⟩
  .unfold b_Z19_f0
   by_cases i:max a c<b
   .have t:turn (a,b,c)=true:=by unfold turn;simp[i]
    simp_arith [max_if,min_if,i,decide_true,t,if_true];simp
   .by_cases q2:b<min a c
    .have t:turn (a,b,c)=true:=by unfold turn;simp[q2]
     simp_arith [max_if,min_if,i,q2,decide_true,decide_false,t,if_true];simp
    .have t:turn (a,b,c)=false:=by unfold turn;simp[i,q2]
     simp_arith [max_if,min_if,i,q2,decide_true,decide_false,t,if_true];simp
  .refine⟨_,_,_,_,rfl,?_⟩
   rw[e,List.filter_cons]
   split <;> simp_all <;> omega
 .rintro ρ ⟨k,x,y,z,rfl,e⟩
  exact⟨x,y,z,by rw[e];simp⟩
 .rintro o ⟨x,y,z,rfl⟩
  unfold after
  simp_arith []
noncomputable def NI (cs:List Nat):List Int:=cs.map fun(c:Nat)=>(c:Int)
end
section
open PySem L2
noncomputable abbrev BT (η:List Int)(s:Int)(d:Bool)(p t:Nat):List Nat->Prop:=Best (From (xr η) η.length s d p t)
theorem BT.len {η:List Int}{s:Int}{d:Bool}{p t:Nat}{l:List Nat}(h:BT η s d p t l):l.length<=η.length:=by
 rcases h.1.2 with e|⟨q,m,e,_⟩
 .rw[e]at h ⊢
  have:=h.1.1.lt
  simp;omega
 .rw[e]at h ⊢
  have:=h.1.1.len
  simp at this ⊢;omega
noncomputable def Done (η:List Int)(s:Int)(p:Nat)(U V:List (List Nat)):Prop:=∀ q,p<=q->q<η.length->BT η s true q η.length (U.getD q [])/\BT η s false q η.length (V.getD q [])
noncomputable def Yet (p:Nat)(U V:List (List Nat)):Prop:=∀ q,q<p->U.getD q []=[q]/\V.getD q []=[q]
theorem upU_at (s:Int)(η:List Int)(d:Bool)(U V:List (List Nat))(p q:Nat)(hp:p<U.length):(upU s η d U V p q).getD p []=if far s d (xr η p) (xr η q)/\(U.getD p []).length<=(V.getD q []).length then p::V.getD q []else U.getD p []:=by
 unfold upU far
 by_cases i:((if d then s<=xr η q-xr η p else s<=xr η p-xr η q)/\(U.getD p []).length<=(V.getD q []).length)
 .rw[if_pos i,if_pos i,i4 _ _ _ hp]
 .rw[if_neg i,if_neg i]
theorem inner_step (η:List Int)(s:Int)(U V:List (List Nat))(p k:Nat)(z:U.length=η.length)(j:V.length=η.length)(i:p+1+k<η.length)(hd:Done η s (p+1) U V)
  (h1:BT η s true p (p+k) (U.getD p [])) (h2:BT η s false p (p+k) (V.getD p [])):
  BT η s true p (p+(k+1)) ((upU s η true U V p (p+1+k)).getD p [])/\BT η s false p (p+(k+1)) ((upU s η false V U p (p+1+k)).getD p []):=by
 obtain⟨a,b⟩:=hd (p+1+k) (by omega) i
 rw[upU_at _ _ _ _ _ _ _ (by omega),upU_at _ _ _ _ _ _ _ (by omega)]
 have e:p+(k+1)=p+1+k:=by omega
 rw[e]
 constructor
 .exact from_step (q:=p+1+k) (by omega) (from_skip h1 (by omega)) b _
 .exact from_step (q:=p+1+k) (by omega) (from_skip h2 (by omega)) a _
theorem inner_loop (η:List Int)(s:Int)(hr:η.length<=300)(U V:List (List Nat))(p:Nat)(hp:p<η.length)(N:U.length=η.length)(M:V.length=η.length)(hd:Done η s (p+1) U V)(L:Yet (p+1) U V)(J G:Option S)(Q:Out->Prop)
  (hQ:∀ U V J G,U.length=η.length->V.length=η.length->Done η s p U V->Yet p U V->Q (.nx (envU η s U V (k0b p) J G))):
  Run b_Z23_f1 (envU η s U V (k0b p) J G) Q:=by
 unfold b_Z23_f1
 have k1:okR ((p:Int)+1)=true:=V5 (by omega) (by omega)
 have Z:okR (η.length:Int)=true:=V5 (by omega) (by omega)
 have er:W4 ((p:Int)+1) ((η.length:Int)-((p:Int)+1)).toNat=(List.range (η.length-(p+1))).map fun(j:Nat)=>D.int ((p+1+j:Nat):Int):=by
  rw[P4,show ((η.length:Int)-((p:Int)+1)).toNat=η.length-(p+1)by omega]
  apply List.map_congr_left
  intro i _
  congr 1
 refine Z6 (η.length-(p+1)) (f:=fun(j:Nat)=>D.int ((p+1+j:Nat):Int)) (by unfold envU;simp_arith [List.length_map,rng2_ok k1 Z,er])
  (I:=fun k ρ=>∃ U V J G,U.length=η.length/\V.length=η.length/\Done η s (p+1) U V/\Yet p U V/\BT η s true p (p+k) (U.getD p [])/\BT η s false p (p+k) (V.getD p [])/\ρ=envU η s U V (k0b p) J G) _
  ⟨U,V,J,G,N,M,hd,fun q hq=>L q (by omega),by rw[(L p (by omega)).1];exact from_one hp,by rw[(L p (by omega)).2];exact from_one hp,rfl⟩ ?_ ?_
 .rintro k ρ hk ⟨U,V,J,G,N,M,hd,L,h1,h2,rfl⟩
  refine⟨_,rfl,?_⟩
  obtain⟨a,b⟩:=hd (p+1+k) (by omega) (by omega)
  have la:=a.len
  have lb:=b.len
  obtain⟨O,e⟩:=tails_body η s U V p (p+1+k) G N M hp (by omega) (by omega) (by omega) (by omega)
  obtain⟨Y,R⟩:=inner_step η s U V p k N M (by omega) hd h1 h2
  refine⟨_,e,upU s η true U V p (p+1+k),upU s η false V U p (p+1+k),_,_,by rw[upU_len];exact N,by rw[upU_len];exact M,?_,?_,Y,R,rfl⟩
  .intro q h1 h2
   rw[upU_ne _ _ _ _ _ _ _ _ (by omega),upU_ne _ _ _ _ _ _ _ _ (by omega)]
   exact hd q h1 h2
  .intro q h1
   rw[upU_ne _ _ _ _ _ _ _ _ (by omega),upU_ne _ _ _ _ _ _ _ _ (by omega)]
   exact L q h1
 .rintro ρ ⟨U,V,J,G,N,M,hd,L,h1,h2,rfl⟩
  refine hQ U V J G N M (fun q h3 h4=>?_) L
  rcases Nat.lt_or_ge p q with z|z
  .exact hd q (by omega) h4
  .have:q=p:=by omega
   subst this
   exact⟨from_all h1 (by omega),from_all h2 (by omega)⟩
theorem rngD_ok {j:Int}(h:okR j=true):rngD [.int j]=some (E3 j.toNat):=by
 unfold rngD
 simp only[h,if_true]
theorem ones_ev (η:List Int)(z:η.length<=300)(ρ:Ro)(q:bvar 0 ρ=some (η.map .int)):i6 [none] (p8 rng1 (y0 (mlen (bvar 0)) anil)) (.nm 0) cyes (mlst (t5 (y0 (mvar 0) anil))) ρ=some (((List.range η.length).map fun j=>[j]).map L):=by
 have i:okR (η.length:Int)=true:=V5 (by omega) (by omega)
 have i1:0+1<=sizeLine:=v6 (by decide)
 have e1:p8 rng1 (y0 (mlen (bvar 0)) anil) ρ=some ((List.range η.length).map dN):=by
  unfold p8
  rw[z8 (l7 q) y7,Option.bind_some,List.length_map,rng1_ok i,Int.toNat_natCast,R1,List.map_map]
  rfl
 unfold i6
 rw[e1]
 refine(i9 (f:=dN) (G:=fun j=>L [j]) (fun _ ρ=>∃ x,ρ=[x]) (by
  rintro d ds ρ ⟨x,rfl⟩
  exact⟨[some (.sh (dN d))],rfl,rfl,by rw[n5 (o8 (z8 (x:=mvar 0) (d:=dN d) rfl y7) i1)];rfl,_,rfl⟩) (List.range η.length) _ [] ⟨none,rfl⟩ (v6 (by simp;omega))).trans ?_
 rw[List.map_map]
 rfl
theorem tails_eq (η:List Int)(s:Int)(O:η.length<=300):∃ U V:List (List Nat),m_Z23 [.lst (η.map .int),.int s]=some (.sh (.tup [.lst (U.map L),.lst (V.map L)]))/\U.length=η.length/\V.length=η.length/\Done η s 0 U V:=by
 suffices h:∃ d,runB 7 b_Z23 [.lst (η.map .int),.int s]=some (.sh d)/\∃ U V:List (List Nat),d= .tup [.lst (U.map L),.lst (V.map L)]/\U.length=η.length/\V.length=η.length/\Done η s 0 U V by
  obtain⟨d,e,U,V,rfl,a,b,c⟩:=h
  exact⟨U,V,e,a,b,c⟩
 suffices h:Run b_Z23 (p9 7 [.lst (η.map .int),.int s]) (fun o=>∃ U V:List (List Nat),o= .rt (.tup [.lst (U.map L),.lst (V.map L)])/\U.length=η.length/\V.length=η.length/\Done η s 0 U V)by
  obtain⟨o,e,U,V,rfl,r⟩:=h
  exact⟨_,h8 e,U,V,rfl,r⟩
 unfold b_Z23
 have R:okR (η.length:Int)=true:=V5 (by omega) (by omega)
 have i2:0+1+1<=sizeLine:=v6 (by decide)
 refine u0 (ρ':=[k0a η,k0c s,some (.own (((List.range η.length).map fun j=>[j]).map L)),none,none,none,none]) (by unfold Z0;rw[ones_ev η O _ rfl];rfl) ?_
 refine u0 (ρ':=envU η s ((List.range η.length).map fun j=>[j]) ((List.range η.length).map fun j=>[j]) none none none) (by unfold Z0;rw[ones_ev η O _ rfl];rfl) ?_
 have Y:E3 η.length=(List.range η.length).map fun(j:Nat)=>D.int ((η.length:Int)-1-(j:Int)):=rfl
 have one:∀ q,q<η.length->((List.range η.length).map fun j=>[j]).getD q []=[q]:=by
  intro q S
  rw[List.getD_eq_getElem?_getD,List.getElem?_map,List.getElem?_range S];rfl
 refine j4 (Z6 η.length (f:=fun(j:Nat)=>D.int ((η.length:Int)-1-(j:Int))) ?_
  (I:=fun j ρ=>∃ U V N z i,U.length=η.length/\V.length=η.length/\Done η s (η.length-j) U V/\Yet (η.length-j) U V/\ρ=envU η s U V N z i) _
  ⟨_,_,_,_,_,by simp,by simp,fun q h1 h2=>by omega,fun q h1=>⟨one q (by omega),one q (by omega)⟩,rfl⟩ ?_ ?_)
 .unfold p8
  rw[z8 (x:=mlen (bvar 0)) (d:=.int ((η.map D.int).length:Int)) (l7 rfl) y7,Option.bind_some,List.length_map,rngD_ok R,Int.toNat_natCast,Y]
 .rintro j ρ hj ⟨U,V,N,z,i,M,J,hd,G,rfl⟩
  refine⟨_,rfl,?_⟩
  have e:(η.length:Int)-1-(j:Int)=((η.length-1-j:Nat):Int):=by omega
  rw[e]
  have e2:η.length-1-j+1=η.length-j:=by omega
  refine inner_loop η s O U V (η.length-1-j) (by omega) M J (by rw[e2];exact hd) (by rw[e2];exact G) z i _ fun U V z i M J hd G=>?_
  rw[show η.length-1-j=η.length-(j+1)by omega]at hd G
  exact⟨U,V,_,_,_,M,J,hd,G,rfl⟩
 .rintro ρ ⟨U,V,N,z,i,M,J,hd,G,rfl⟩
  rw[Nat.sub_self]at hd
  unfold b_Z23_r2
  refine h7 (ds:=U.map L) rfl (h7 (ds:=V.map L) rfl ⟨_,?_,U,V,rfl,M,J,hd⟩)
  unfold envU
  simp_arith [i2,if_true]
theorem key_eq (l:List Nat):Y2 [L l]=some (.sh (Ky l)):=by
 unfold Y2 b_Z11
 have i2:0+1+1<=sizeLine:=v6 (by decide)
 refine h8 ?_
 unfold L
 simp_arith [i2,if_true,List.length_map]
 rfl
theorem N8 {U:List (List Nat)}{m:List Nat}(h:m∈U):∃ q,q<U.length/\m=U.getD q []:=by
 obtain⟨q,i,e⟩:=List.getElem_of_mem h
 exact⟨q,i,by rw[List.getD_eq_getElem?_getD,List.getElem?_eq_getElem i,<-e];rfl⟩
theorem M0 {U:List (List Nat)}{q:Nat}(h:q<U.length):U.getD q []∈U:=by
 rw[List.getD_eq_getElem?_getD,List.getElem?_eq_getElem h];exact List.getElem_mem h
theorem longest_eq (η:List Int)(s:Int)(M:1<=s)(N:η.length<=300):∃ l,m_Z22 [.lst (η.map .int),.int s]=some (.sh (L l))/\Best (Wv (xr η) η.length s) l:=by
 obtain⟨U,V,R,Y,S,hd⟩:=tails_eq η s N
 have I:0<=sizeLine:=Nat.zero_le _
 have ek:∀ l,shOf (Y2 [L l])=some (Ky l):=fun l=>by rw[key_eq];rfl
 have i:∃ l,minD (fun d=>shOf (Y2 [d])) ((U++V).map L) (.lst [])=some (L l)/\Best (Wv (xr η) η.length s) l:=by
  cases hc:U++V with
  |nil=>
   have:η.length=0:=by
    have:=congrArg List.length hc
    rw[List.length_append,List.length_nil]at this
    omega
   exact⟨[],rfl,best_none this⟩
  |cons b j=>
   obtain⟨r,e,h1,h2⟩:=N7 (mk:=fun d=>shOf (Y2 [d])) ek j b
   refine⟨r,?_,?_⟩
   .show (match shOf (Y2 [L b])with |some G=>minF _ (j.map L) (L b) G|none=>none)=_
    rw[ek b]
    exact e
   .rw[<-hc]at h1 h2
    have all:∀ m∈U++V,∃ d q,BT η s d q η.length m:=by
     intro m hm
     rcases List.mem_append.mp hm with h|h
     .obtain⟨q,hq,rfl⟩:=N8 h
      exact⟨true,q,(hd q (Nat.zero_le _) (by omega)).1⟩
     .obtain⟨q,hq,rfl⟩:=N8 h
      exact⟨false,q,(hd q (Nat.zero_le _) (by omega)).2⟩
    refine best_all h1 h2 (fun m hm=>?_) (fun d p hp=>?_) ?_
    .obtain⟨d,q,h⟩:=all m hm
     exact .inr ⟨d,h.1.1⟩
    .cases d
     .exact⟨_,List.mem_append_right _ (M0 (q:=p) (by omega)),(hd p (Nat.zero_le _) hp).2⟩
     .exact⟨_,List.mem_append_left _ (M0 (q:=p) (by omega)),(hd p (Nat.zero_le _) hp).1⟩
    .obtain⟨d,q,h⟩:=all r h1
     intro z
     rw[z]at h
     exact h.1.1
 obtain⟨l,e,O⟩:=i
 refine⟨l,?_,O⟩
 unfold m_Z22 b_Z22
 refine U2 ?_
 ((apply u0;focus (simp_arith [g7 s M];rfl)))
 refine u0 (ρ':=[k0a η,k0c s,some (.sh (.lst (U.map L))),some (.sh (.lst (V.map L)))]) ?_ ?_
 .unfold masg
  rw[w9 (z8 (d:=.lst (η.map .int)) rfl (z8 (d:=.int s) rfl y7)) R]
  rfl
 .refine⟨_,?_,rfl⟩
  have e1:p6 (m2 addD (mvar 2) (mvar 3)) [k0a η,k0c s,some (.sh (.lst (U.map L))),some (.sh (.lst (V.map L)))]=some ((U++V).map L):=by
   have J:(U.map L).length+(V.map L).length<=sizeLine:=v6 (by simp;omega)
   refine o9 ?_
   unfold m2
   show (if (U.map L).length+(V.map L).length<=sizeLine then some (D.lst (U.map L++V.map L))else none)=_
   rw[if_pos J,List.map_append]
  have e2:mlst (t5 anil) [k0a η,k0c s,some (.sh (.lst (U.map L))),some (.sh (.lst (V.map L)))]=some (.lst []):=n5 (o8 y7 I)
  unfold mret
  rw[mminK_ev e1 e2,e]
  rfl
theorem how_long_eq (η:List Int)(s:Int)(l:List Nat)(h:m_Z22 [.lst (η.map .int),.int s]=some (.sh (L l))):m_Z21 [.lst (η.map .int),.int s]=some (.sh (.int (l.length:Int))):=by
 unfold m_Z21 b_Z21
 refine h8 ?_
 unfold mret
 rw[l7 (o9 (ds:=l.map dN) (w9 (z8 (d:=.lst (η.map .int)) rfl (z8 (d:=.int s) rfl y7)) h)),List.length_map]
 rfl
end
section
open PySem L2
noncomputable def Sd (x:Nat->Int)(n:Nat)(s:Int):List Nat->Nat->Bool->Prop
 |[],_,_=>False
 |[p],_,_=>p<n
 |p::q::l,t,d=>p<q/\far s d (x p) (x q)/\(Sd x n s (q::l) t d\/∃ u,t=u+1/\Sd x n s (q::l) u (!d))
variable {x:Nat->Int}{n:Nat}{s:Int}
theorem Sd.lt:∀{l:List Nat}{p t:Nat}{d:Bool},Sd x n s (p::l) t d->p<n
 |[],_,_,_,h=>h
 |q::l,p,t,d,h=>by
  rcases h.2.2 with z|⟨u,_,z⟩
  .exact Nat.lt_trans h.1 z.lt
  .exact Nat.lt_trans h.1 z.lt
theorem Sd.mono:∀{l:List Nat}{t u:Nat}{d:Bool},Sd x n s l t d->t<=u->Sd x n s l u d
 |[],_,_,_,h,_=>h
 |[p],_,_,_,h,_=>h
 |p::q::l,t,u,d,h,hu=>by
  refine⟨h.1,h.2.1,?_⟩
  rcases h.2.2 with z|⟨v,e,z⟩
  .exact .inl (z.mono hu)
  .exact .inr ⟨u-1,by omega,z.mono (by omega)⟩
theorem Sd.len:∀{l:List Nat}{p t:Nat}{d:Bool},Sd x n s (p::l) t d->l.length+p<n
 |[],p,_,_,h=>by have h:p<n:=h;simpa using h
 |q::l,p,t,d,h=>by
  have h1:=h.1
  have:l.length+q<n:=by
   rcases h.2.2 with z|⟨u,_,z⟩
   .exact z.len
   .exact z.len
  simp;omega
theorem Sd.enough:∀{l:List Nat}{t:Nat}{d:Bool},Sd x n s l t d->Sd x n s l l.length d
 |[],_,_,h=>h
 |[p],_,_,h=>h
 |p::q::l,t,d,h=>by
  refine⟨h.1,h.2.1,?_⟩
  rcases h.2.2 with z|⟨v,e,z⟩
  .exact .inl (z.enough.mono (by simp))
  .exact .inr ⟨(q::l).length,rfl,z.enough⟩
noncomputable def FS (x:Nat->Int)(n:Nat)(s:Int)(t:Nat)(d:Bool)(p:Nat)(l:List Nat):Prop:=Sd x n s l t d/\Hd p l
noncomputable def FR (x:Nat->Int)(n:Nat)(s:Int)(t:Nat)(d:Bool)(p:Nat)(l:List Nat):Prop:=(Sd x n s l t d\/∃ u,t=u+1/\Sd x n s l u (!d))/\Hd p l
theorem ahead_nil (l:List Nat)(h:l≠[]):m6 [] l=false:=by
 cases l with
 |nil=>exact absurd rfl h
 |cons a l=>
  cases e:m6 [] (a::l)with
  |false=>rfl
  |true=>
   rw[k7]at e
   simp only[List.length_nil,List.length_cons]at e
   omega
theorem ahead_false {a b:List Nat}:m6 a b=false↔a=b\/m6 b a=true:=by
 constructor
 .intro h
  rcases P2 a b with z|z|z
  .exact .inl z
  .rw[h]at z;cases z
  .exact .inr z
 .rintro(z|z)
  .rw[z];exact X4 _
  .cases e:m6 a b with
   |false=>rfl
   |true=>have:=Z5 e z;rw[X4]at this;cases this
theorem U9 {a b c:List Nat}(h1:m6 a b=false)(h2:m6 b c=false):m6 a c=false:=by
 rw[ahead_false]at*
 rcases h1 with rfl|h1
 .exact h2
 .rcases h2 with rfl|h2
  .exact .inr h1
  .exact .inr (Z5 h2 h1)
theorem best_two {P Q R:List Nat->Prop}{a b c:List Nat}(ha:Best P a)(j:Best Q b)(q:c=if m6 b a=true then b else a)(i:∀ l,R l↔P l\/Q l):Best R c:=by
 subst q
 cases h:m6 b a with
 |true=>
  simp only[if_true]
  exact⟨(i _).mpr (.inr j.1),fun m hm=>by
   rcases (i m).mp hm with z|z
   .exact U9 (ha.2 m z) (ahead_false.mpr (.inr h))
   .exact j.2 m z⟩
 |false=>
  simp only[Bool.false_eq_true,if_false]
  exact⟨(i _).mpr (.inl ha.1),fun m hm=>by
   rcases (i m).mp hm with z|z
   .exact ha.2 m z
   .exact U9 (j.2 m z) h⟩
noncomputable def fl:List (List Nat)->List Nat->List Nat
 |[],b=>b
 |m::ls,b=>if b.length<m.length then fl ls m else fl ls b
theorem fl_best:∀(i:List (List Nat))(b:List Nat),(b::i).Pairwise (fun a c=>lx a c=true)->fl i b∈b::i/\∀ m∈b::i,m6 m (fl i b)=false
 |[],b,_=>⟨by simp[fl],by simp[fl,X4]⟩
 |m::i,b,h=>by
  have hp:=List.pairwise_cons.mp h
  unfold fl
  by_cases q:b.length<m.length
  .rw[if_pos q]
   obtain⟨h1,h2⟩:=fl_best i m hp.2
   refine⟨List.mem_cons_of_mem _ h1,fun k j=>?_⟩
   rcases List.mem_cons.mp j with rfl|j
   .exact U9 (ahead_false.mpr (.inr ((k7 m k).mpr (.inl q)))) (h2 m (by simp))
   .exact h2 k j
  .rw[if_neg q]
   have G:(b::i).Pairwise (fun a c=>lx a c=true):=List.pairwise_cons.mpr ⟨fun c I=>hp.1 c (by simp[I]),(List.pairwise_cons.mp hp.2).2⟩
   obtain⟨h1,h2⟩:=fl_best i b G
   refine⟨?_,fun k j=>?_⟩
   .rcases List.mem_cons.mp h1 with z|z
    .rw[z];simp
    .simp[z]
   .rcases List.mem_cons.mp j with rfl|j
    .exact h2 k (by simp)
    .rcases List.mem_cons.mp j with rfl|j
     .refine U9 (b:=b) ?_ (h2 b (by simp))
      refine ahead_false.mpr (.inr ((k7 b k).mpr ?_))
      rcases Nat.lt_or_ge k.length b.length with z|z
      .exact .inl z
      .exact .inr ⟨by omega,hp.1 k (by simp)⟩
     .exact h2 k (by simp[j])
noncomputable def flD:List (List Nat)->List Nat
 |[]=>[]
 |m::ls=>fl ls m
theorem lx_heads {a b:Nat}{l m:List Nat}(h:a<b):lx (a::l) (b::m)=true:=by
 unfold lx;simp[h]
theorem best_step {t:Nat}{d:Bool}{p:Nat}{qs:List Nat}{R:Nat->List Nat}(hp:p<n)(J:∀ q,q∈qs↔p<q/\q<n/\far s d (x p) (x q))(U:qs.Pairwise (·<·))(N:∀ q∈qs,Best (FR x n s t d q) (R q)):
  Best (FS x n s t d p) (p::flD (qs.map R)):=by
 have hd:∀ q∈qs,∃ m,R q=q::m:=fun q h=>(N q h).1.2
 cases qs with
 |nil=>
  refine⟨⟨hp,[],rfl⟩,?_⟩
  rintro m ⟨h1,k,rfl⟩
  cases k with
  |nil=>exact X4 _
  |cons q k=>
   exfalso
   have j:q<n:=by
    rcases h1.2.2 with z|⟨u,_,z⟩
    .exact z.lt
    .exact z.lt
   have:=(J q).mpr ⟨h1.1,j,h1.2.1⟩
   cases this
 |cons G qs=>
  have S:((G::qs).map R).Pairwise (fun a c=>lx a c=true):=by
   rw[List.pairwise_map]
   refine U.imp_of_mem fun{a b} ha L M=>?_
   obtain⟨m1,e1⟩:=hd a ha
   obtain⟨m2,e2⟩:=hd b L
   rw[e1,e2]
   exact lx_heads M
  obtain⟨h1,h2⟩:=fl_best (qs.map R) (R G) (by simpa using S)
  have h1:flD ((G::qs).map R)∈(G::qs).map R:=by simpa[flD]using h1
  have h2:∀ m∈(G::qs).map R,m6 m (flD ((G::qs).map R))=false:=by simpa[flD]using h2
  obtain⟨q,i,e⟩:=List.mem_map.mp h1
  have L:=N q i
  obtain⟨m,em⟩:=hd q i
  obtain⟨Z,a2,Y⟩:=(J q).mp i
  rw[<-e]
  rw[<-e]at h2
  refine⟨⟨?_,_,rfl⟩,?_⟩
  .rw[em]
   refine⟨Z,Y,?_⟩
   rw[<-em]
   exact L.1.1
  .rintro k ⟨g1,O,rfl⟩
   cases O with
   |nil=>
    refine ahead_false.mpr (.inr ((k7 _ _).mpr (.inl ?_)))
    rw[em];simp
   |cons r O=>
    rw[C1]
    have j:r<n:=by
     rcases g1.2.2 with z|⟨u,_,z⟩
     .exact z.lt
     .exact z.lt
    have I:=(J r).mpr ⟨g1.1,j,g1.2.1⟩
    exact U9 ((N r I).2 (r::O) ⟨g1.2.2,_,rfl⟩) (h2 _ (List.mem_map.mpr ⟨r,I,rfl⟩))
noncomputable def Tn (x:Nat->Int)(n:Nat)(s:Int)(t:Nat)(l:List Nat):Prop:=l=[]\/∃ d,Sd x n s l t d
theorem Tn.mono {t u:Nat}{l:List Nat}(h:Tn x n s t l)(i:t<=u):Tn x n s u l:=h.imp id fun⟨d,z⟩=>⟨d,z.mono i⟩
theorem Tn.all {t:Nat}{l:List Nat}(h:Tn x n s t l):Tn x n s n l:=by
 rcases h with h|⟨d,h⟩
 .exact .inl h
 .refine .inr ⟨d,h.enough.mono ?_⟩
  cases l with
  |nil=>simp
  |cons p l=>have:=h.len;simp;omega
theorem Tn.len {t:Nat}{l:List Nat}(h:Tn x n s t l):l.length<=n:=by
 rcases h with rfl|⟨d,h⟩
 .simp
 .cases l with
  |nil=>simp
  |cons p l=>have:=h.len;simp;omega
theorem best_turns {t:Nat}{l:List Nat}{q:List (List Nat)}(hm:l∈q)(i:∀ m∈q,m6 m l=false)(hw:∀ m∈q,Tn x n s t m)(j:∀ d p,p<n->∃ m∈q,Best (FS x n s t d p) m)(hn:l≠[]):Best (Tn x n s t) l:=by
 refine⟨hw l hm,fun m h=>?_⟩
 rcases h with rfl|⟨d,h⟩
 .exact ahead_nil l hn
 .cases m with
  |nil=>exact h.elim
  |cons p m=>
   obtain⟨k,z,G⟩:=j d p h.lt
   exact U9 (G.2 _ ⟨h,_,rfl⟩) (i k z)
theorem best_turns0 {t:Nat}(hn:n=0):Best (Tn x n s t) []:=by
 refine⟨.inl rfl,fun m h=>?_⟩
 rcases h with rfl|⟨d,h⟩
 .rfl
 .cases m with
  |nil=>exact h.elim
  |cons p m=>have:=h.lt;omega
end
section
open PySem L2
theorem j1 {f:D->D->Option D}{x y:ME}{ρ:Ro}{a b:D}(h1:x ρ=some a)(h2:y ρ=some b):m2 f x y ρ=f a b:=by
 unfold m2;rw[h1,h2];rfl
theorem map_succ {i:Type}(f:Nat->i)(j:Nat):(List.range (j+1)).map f=(List.range j).map f++[f j]:=by
 rw[List.range_succ,List.map_append];rfl
noncomputable def abv (η:List Int)(s:Int)(d:Bool)(p:Nat):List Nat:=((List.range (η.length-(p+1))).map fun j=>p+1+j).filter fun q=>decide (far s d (xr η p) (xr η q))
theorem abv_mem {η:List Int}{s:Int}{d:Bool}{p q:Nat}:q∈abv η s d p↔p<q/\q<η.length/\far s d (xr η p) (xr η q):=by
 unfold abv
 rw[List.mem_filter,List.mem_map,decide_eq_true_eq]
 constructor
 .rintro⟨⟨j,hj,rfl⟩,h⟩
  have:=List.mem_range.mp hj
  exact⟨by omega,by omega,h⟩
 .rintro⟨h1,h2,h3⟩
  exact⟨⟨q-(p+1),List.mem_range.mpr (by omega),by omega⟩,h3⟩
theorem G3 (η:List Int)(s:Int)(d:Bool)(p:Nat):(abv η s d p).length<=η.length:=by
 unfold abv
 refine Nat.le_trans (List.length_filter_le _ _) ?_
 rw[List.length_map,List.length_range];omega
noncomputable def envS2 (η:List Int)(s:Int)(A B:List (List Nat))(o4 o5:Option S):Ro:=[k0a η,k0c s,some (.own (A.map L)),some (.own (B.map L)),o4,o5]
theorem rng_from (η:List Int)(p:Nat)(q:η.length<=300)(hp:p<η.length):W4 ((p:Int)+1) ((η.length:Int)-((p:Int)+1)).toNat=((List.range (η.length-(p+1))).map fun j=>p+1+j).map dN:=by
 rw[P4,show ((η.length:Int)-((p:Int)+1)).toNat=η.length-(p+1)by omega,List.map_map]
 apply List.map_congr_left
 intro i _
 show D.int _=D.int _
 congr 1
theorem abv_comp (η:List Int)(s:Int)(d:Bool)(p:Nat)(I:η.length<=300)(hp:p<η.length)(A B:List (List Nat))(i:MB)
  (M:∀ q:Nat,q<η.length->i [some (.sh (dN q)),k0c s,some (.sh (.int (xr η p))),k0a η]=some (decide (far s d (xr η p) (xr η q)))):
  i6 [none,some 1,some 5,some 0] (p8 rng2 (y0 (m2 addD (mvar 4) (mc (.int 1))) (y0 (mlen (bvar 0)) anil))) (.nm 0) i (mvar 0) (envS2 η s A B (k0b p) (some (.sh (.int (xr η p)))))=some ((abv η s d p).map dN):=by
 have L:okR ((p:Int)+1)=true:=V5 (by omega) (by omega)
 have J:okR (η.length:Int)=true:=V5 (by omega) (by omega)
 have e1:p8 rng2 (y0 (m2 addD (mvar 4) (mc (.int 1))) (y0 (mlen (bvar 0)) anil)) (envS2 η s A B (k0b p) (some (.sh (.int (xr η p)))))=some (((List.range (η.length-(p+1))).map fun j=>p+1+j).map dN):=by
  unfold envS2
  simp_arith [List.length_map,rng2_ok L J,rng_from η p I hp]
 unfold i6
 rw[e1,Option.bind_some]
 show d9 _ _ _ _ [none,k0c s,some (.sh (.int (xr η p))),k0a η] []=_
 rw[Y1 (f:=dN) (p:=fun q=>decide (far s d (xr η p) (xr η q))) (G:=dN) (fun qs ρ=>(∀ q∈qs,q<η.length)/\∃ o,ρ=[o,k0c s,some (.sh (.int (xr η p))),k0a η])
  (by
   rintro q qs ρ ⟨z,o,rfl⟩
   exact⟨_,rfl,M q (z q (by simp)),fun _=>rfl,fun r I=>z r (by simp[I]),_,rfl⟩) _ _ [] ⟨fun q z=>by
    obtain⟨j,N,rfl⟩:=List.mem_map.mp z
    have:=List.mem_range.mp N
    omega,_,rfl⟩ (v6 (by simp;omega)),List.nil_append]
 rfl
theorem E1 (η:List Int)(s:Int)(R:η.length<=300):m_Z15 [.lst (η.map .int),.int s]=some (.sh (.tup [.lst (((List.range η.length).map (abv η s true)).map L),.lst (((List.range η.length).map (abv η s false)).map L)])):=by
 unfold m_Z15 b_Z15
 refine U2 ?_
 have a0:=g0
 have O:0<=sizeLine:=Nat.zero_le _
 have i2:2<=sizeLine:=v6 (by decide)
 refine u0 (ρ':=[k0a η,k0c s,some (.own []),none,none,none]) (by unfold Z0;rw[o8 y7 O];rfl) ?_
 refine u0 (ρ':=envS2 η s [] [] none none) (by unfold Z0;rw[o8 y7 O];rfl) ?_
 have Y:p8 E2 (y0 (mvar 0) anil) (envS2 η s [] [] none none)=some ((List.range η.length).map fun(i:Nat)=>D.tup [.int (i:Int),.int (xr η i)]):=by
  unfold p8
  rw[z8 (x:=mvar 0) (d:=.lst (η.map .int)) rfl y7,Option.bind_some]
  show some (V9 0 (η.map .int))=_
  rw[J7]
  congr 1
  apply List.map_congr_left
  intro i _
  rw[Nat.zero_add]
 refine j4 (Z6 η.length (f:=fun(i:Nat)=>D.tup [.int (i:Int),.int (xr η i)]) Y
  (I:=fun j ρ=>∃ N J,ρ=envS2 η s ((List.range j).map (abv η s true)) ((List.range j).map (abv η s false)) N J) _ ⟨_,_,rfl⟩ ?_ ?_)
 .rintro j ρ hj ⟨N,J,rfl⟩
  refine⟨envS2 η s ((List.range j).map (abv η s true)) ((List.range j).map (abv η s false)) (k0b j) (some (.sh (.int (xr η j)))),rfl,?_⟩
  unfold b_Z15_f0
  have S:∀ q:Nat,q<η.length->mix (bvar 3) (mvar 0) [some (.sh (dN q)),k0c s,some (.sh (.int (xr η j))),k0a η]=some (.int (xr η q)):=fun q z=>j0 rfl rfl (C0 η q z)
  have c1:=abv_comp η s true j R hj ((List.range j).map (abv η s true)) ((List.range j).map (abv η s false)) (v3 (m2 geD (m2 subD (mix (bvar 3) (mvar 0)) (mvar 2)) (mvar 1))) (fun q z=>by
   rw[E7 ((j1 (S q z) rfl).trans (show subD (.int (xr η q)) (.int (xr η j))=some (.int (xr η q-xr η j))from rfl)) rfl]
   unfold far;simp)
  have Z:=abv_comp η s false j R hj ((List.range (j+1)).map (abv η s true)) ((List.range j).map (abv η s false)) (v3 (m2 geD (m2 subD (mvar 2) (mix (bvar 3) (mvar 0))) (mvar 1))) (fun q z=>by
   rw[E7 ((j1 (show mvar 2 _=some (.int (xr η j))from rfl) (S q z)).trans (show subD (.int (xr η j)) (.int (xr η q))=some (.int (xr η j-xr η q))from rfl)) rfl]
   unfold far;simp)
  have G:∀(ρ:Ro)(i:Nat)(M:List (List Nat))(m:ML)(l:List Nat),ρ[i]? =some (some (.own (M.map L)))->m ρ=some (l.map dN)->M.length<sizeLine->mapp i (mlst m) ρ=some (.nx (ρ.set i (some (.own ((M++[l]).map L))))):=by
   intro ρ i M m l h1 h2 U
   unfold mapp
   rw[h1,n5 h2]
   show (some (D.lst (l.map dN))).bind (fun d=>if (M.map L).length<sizeLine then some (Out.nx (ρ.set i (some (.own (M.map L++[d])))))else none)=_
   rw[Option.bind_some,if_pos (by rw[List.length_map];exact U),List.map_append]
   rfl
  refine u0 (ρ':=envS2 η s ((List.range (j+1)).map (abv η s true)) ((List.range j).map (abv η s false)) (k0b j) (some (.sh (.int (xr η j))))) ?_ ?_
  .rw[G _ 2 _ _ _ rfl c1 (by simp;omega),<-map_succ]
   rfl
  .refine⟨_,G _ 3 _ _ _ rfl Z (by simp;omega),?_⟩
   rw[<-map_succ]
   exact⟨_,_,rfl⟩
 .rintro ρ ⟨N,J,rfl⟩
  unfold b_Z15_r1
  refine h7 (ds:=((List.range η.length).map (abv η s false)).map L) rfl (h7 (ds:=((List.range η.length).map (abv η s true)).map L) rfl ⟨_,S2 (mtup_ev (z8 (d:=.lst (((List.range η.length).map (abv η s true)).map L)) rfl (z8 (d:=.lst (((List.range η.length).map (abv η s false)).map L)) rfl y7)) i2),rfl⟩)
end
section
open PySem L2
theorem maxF_fl:∀(i:List (List Nat))(b:List Nat),maxF (i.map L) (L b) (.int (b.length:Int))=some (L (fl i b))
 |[],b=>rfl
 |m::i,b=>by
  rw[List.map_cons]
  unfold maxF
  have e:O5 (L m)=some (.int (m.length:Int)):=by
   show some (D.int ((m.map dN).length:Int))=_
   rw[List.length_map]
  rw[e]
  show (match some (decide ((m.length:Int)>(b.length:Int)))with |some true=>_|some false=>_|none=>_)=_
  unfold fl
  by_cases h:b.length<m.length
  .rw[if_pos h,decide_eq_true (by omega)]
   exact maxF_fl i m
  .rw[if_neg h,decide_eq_false (by omega)]
   exact maxF_fl i b
theorem maxD_fl (i:List (List Nat)):maxD (i.map L) (.lst [])=some (L (flD i)):=by
 cases i with
 |nil=>rfl
 |cons m i=>
  show (match O5 (L m)with |some j=>maxF (i.map L) (L m) j|none=>none)=_
  have e:O5 (L m)=some (.int (m.length:Int)):=by
   show some (D.int ((m.map dN).length:Int))=_
   rw[List.length_map]
  rw[e]
  exact maxF_fl i m
theorem O1 (R:List (List Nat))(qs:List Nat)(z:qs.length<=1000)(j:∀ q∈qs,q<R.length):m_Z6 [.lst (R.map L),.lst (qs.map dN)]=some (.sh (L (flD (qs.map fun q=>R.getD q [])))):=by
 unfold m_Z6 b_Z6
 refine h8 ?_
 have e1:i6 [none,some 0] (p6 (mvar 1)) (.nm 0) cyes (mix (bvar 1) (mvar 0)) (p9 2 [.lst (R.map L),.lst (qs.map dN)])=some ((qs.map fun q=>R.getD q []).map L):=by
  unfold i6
  rw[o9 (m:=mvar 1) (ds:=qs.map dN) rfl,Option.bind_some]
  refine(i9 (f:=dN) (G:=fun q=>L (R.getD q [])) (fun ks ρ=>(∀ q∈ks,q<R.length)/\∃ o,ρ=[o,some (.sh (.lst (R.map L)))]) (by
   rintro q ks ρ ⟨h,o,rfl⟩
   exact⟨[some (.sh (dN q)),some (.sh (.lst (R.map L)))],rfl,rfl,j0 (m:=bvar 1) rfl rfl (at_L R q (h q (by simp))),fun r i=>h r (by simp[i]),_,rfl⟩) qs _ [] ⟨j,none,rfl⟩ (v6 (by simp;omega))).trans ?_
  rw[List.nil_append,List.map_map]
  rfl
 unfold mret
 rw[mmaxLen_ev e1 (n5 (o8 y7 (Nat.zero_le _))),maxD_fl]
 rfl
theorem borL_ev {i:Nat}{m:ME}{ρ:Ro}{ds:List D}{d:D}(h:ρ[i]? =some (some (.own ds)))(h2:m (ρ.set i (some (.sh (.lst ds))))=some d)(j:tellL ds d=true):mborL i m ρ=some d:=by
 unfold mborL
 rw[h]
 simp only[h2,j,if_true]
theorem nums_dN (l:List Nat):numsD (l.map dN)=true:=by
 induction l with
 |nil=>rfl
 |cons a l i=>exact i
theorem tell_L (R:List (List Nat))(l:List Nat)(h:R≠[]):tellL (R.map L) (L l)=true:=by
 cases R with
 |nil=>exact absurd rfl h
 |cons a R=>
  show (numsD (l.map dN)&&true)=true
  rw[nums_dN];rfl
theorem setL_ev {i:Nat}{q v:ME}{ρ:Ro}{A:List (List Nat)}{l:List Nat}{p:Nat}(h:ρ[i]? =some (some (.own (A.map L))))(hi:q ρ=some (.int (p:Int)))(z:v ρ=some (L l))(hp:p<A.length):f6 i q v ρ=some (.nx (ρ.set i (some (.own ((A.set p l).map L))))):=by
 unfold f6
 rw[z,h,hi]
 show ((ixN (A.map L).length (p:Int)).map fun j=>Out.nx (ρ.set i (some (.own ((A.map L).set j (L l))))))=_
 rw[List.length_map,ixN_nat _ _ hp]
 show some (Out.nx _)=_
 rw[List.map_set]
theorem ek (l:List Nat):shOf (Y2 [L l])=some (Ky l):=by rw[key_eq];rfl
theorem min2_L {x y:ME}{ρ:Ro}{a b:List Nat}(h1:x ρ=some (L a))(h2:y ρ=some (L b)):K9 (fun d=>shOf (Y2 [d])) (y0 x (y0 y anil)) ρ=some (L (if m6 b a=true then b else a)):=by
 rw[mmin2K_ev (z8 h1 (z8 h2 y7))]
 show (match shOf (Y2 [L a])with |some i=>minF _ [L b] (L a) i|none=>none)=_
 rw[ek a]
 show minF (fun d=>shOf (Y2 [d])) [L b] (L a) (Ky a)=_
 unfold minF
 simp only[ek b,lt_key b a]
 cases m6 b a <;> simp[minF]
noncomputable abbrev RI (r:List Int):D:=.lst (r.map .int)
noncomputable def Ab (η:List Int)(s:Int)(d:Bool):List (List Nat):=(List.range η.length).map (abv η s d)
noncomputable abbrev SP (η:List Int)(s:Int):D:=.tup [.lst ((Ab η s true).map L),.lst ((Ab η s false).map L)]
theorem G4 (η:List Int)(s:Int)(d:Bool):(Ab η s d).length=η.length:=by unfold Ab;simp
theorem Ab_get (η:List Int)(s:Int)(d:Bool)(p:Nat)(h:p<η.length):(Ab η s d).getD p []=abv η s d p:=by
 unfold Ab
 rw[List.getD_eq_getElem?_getD,List.getElem?_map,List.getElem?_range h];rfl
theorem abv_rise (η:List Int)(s:Int)(d:Bool)(p:Nat):(abv η s d p).Pairwise (·<·):=by
 unfold abv
 refine List.Pairwise.filter _ ?_
 rw[List.pairwise_map]
 exact(List.pairwise_lt_range).imp fun h=>by omega
noncomputable abbrev BS (η:List Int)(s:Int)(t:Nat)(d:Bool)(p:Nat):List Nat->Prop:=Best (FS (xr η) η.length s t d p)
noncomputable abbrev BR (η:List Int)(s:Int)(t:Nat)(d:Bool)(p:Nat):List Nat->Prop:=Best (FR (xr η) η.length s t d p)
theorem BS.len {η:List Int}{s:Int}{t:Nat}{d:Bool}{p:Nat}{l:List Nat}(h:BS η s t d p l):l.length<=η.length:=by
 obtain⟨a,m,rfl⟩:=h.1
 have:=a.len
 simp;omega
theorem BR.len {η:List Int}{s:Int}{t:Nat}{d:Bool}{p:Nat}{l:List Nat}(h:BR η s t d p l):l.length<=η.length:=by
 obtain⟨a,m,rfl⟩:=h.1
 rcases a with a|⟨u,_,a⟩
 .have:=a.len;simp;omega
 .have:=a.len;simp;omega
noncomputable def Few (η:List Int)(s:Int)(t:Nat)(U V:List (List Nat)):Prop:=U.length=η.length/\V.length=η.length/\∀ q,q<η.length->(t=0/\U.getD q []=[]/\V.getD q []=[])\/∃ u,t=u+1/\BS η s u true q (U.getD q [])/\BS η s u false q (V.getD q [])
theorem join_best {η:List Int}{s:Int}{t:Nat}{d:Bool}{q:Nat}{a b:List Nat}(ha:BS η s t d q a)(i:(t=0/\b=[])\/∃ u,t=u+1/\BS η s u (!d) q b):BR η s t d q (if m6 b a=true then b else a):=by
 rcases i with⟨j,rfl⟩|⟨u,j,i⟩
 .have hne:a≠[]:=by
   obtain⟨_,m,e⟩:=ha.1
   rw[e];simp
  rw[ahead_nil a hne]
  simp only[Bool.false_eq_true,if_false]
  refine ha.iff fun m=>⟨fun h=>⟨.inl h.1,h.2⟩,fun h=>⟨?_,h.2⟩⟩
  rcases h.1 with z|⟨u,e,_⟩
  .exact z
  .omega
 .refine best_two ha i rfl fun l=>?_
  constructor
  .rintro⟨z|⟨v,e,z⟩,hd⟩
   .exact .inl ⟨z,hd⟩
   .have:v=u:=by omega
    subst this
    exact .inr ⟨z,hd⟩
  .rintro(⟨z,hd⟩|⟨z,hd⟩)
   .exact⟨.inl z,hd⟩
   .exact⟨.inr ⟨u,j,z⟩,hd⟩
noncomputable def envT (η:List Int)(s:Int)(fU fV U V R G:List (List Nat))(o:Option S):Ro:=
 [some (.sh (SP η s)),some (.sh (.tup [.lst (fU.map L),.lst (fV.map L)])),some (.sh (.lst ((Ab η s true).map L))),some (.sh (.lst ((Ab η s false).map L))),some (.sh (.lst (fU.map L))),some (.sh (.lst (fV.map L))),some (.own (U.map L)),some (.own (V.map L)),some (.own (R.map L)),some (.own (G.map L)),o]
structure Tnd (η:List Int)(s:Int)(t p:Nat)(U V R G:List (List Nat)):Prop where
 lU:U.length=η.length
 lV:V.length=η.length
 lR:R.length=η.length
 lG:G.length=η.length
 at':∀ q,p<=q->q<η.length->BS η s t true q (U.getD q [])/\BS η s t false q (V.getD q [])/\BR η s t true q (R.getD q [])/\BR η s t false q (G.getD q [])
theorem turn_body {η:List Int}{s:Int}{t p:Nat}{J j U V R G:List (List Nat)}{o:Option S}(hr:η.length<=300)(hp:p<η.length)(hf:Few η s t J j)(h:Tnd η s t (p+1) U V R G):
  ∃ U' V' R' G',b_Z7_f0 (envT η s J j U V R G (k0b p))=some (.nx (envT η s J j U' V' R' G' (k0b p)))/\Tnd η s t p U' V' R' G':=by
 have i1:0+1<=sizeLine:=v6 (by decide)
 have stp:∀(d:Bool)(T:List (List Nat)),T.length=η.length->(∀ q,p+1<=q->q<η.length->BR η s t d q (T.getD q []))->BS η s t d p (p::flD ((abv η s d p).map fun q=>T.getD q [])):=fun d T hT hb=>
  best_step hp (fun q=>abv_mem) (abv_rise η s d p) fun q I=>by
   obtain⟨a,b,_⟩:=abv_mem.mp I
   exact hb q a b
 have ab:∀(d:Bool),∀ q∈abv η s d p,q<η.length:=fun d q I=>(abv_mem.mp I).2.1
 have Z:=stp true R h.lR fun q a b=>(h.at' q a b).2.2.1
 have Y:=stp false G h.lG fun q a b=>(h.at' q a b).2.2.2
 generalize eU:flD ((abv η s true p).map fun q=>R.getD q [])=u at Z
 generalize eV:flD ((abv η s false p).map fun q=>G.getD q [])=v at Y
 have lu:u.length+1<=η.length:=by have:=Z.len;simpa using this
 have lv:v.length+1<=η.length:=by have:=Y.len;simpa using this
 obtain⟨f1,f2,f3⟩:=hf
 have jU:=join_best (b:=j.getD p []) Z (by
  rcases f3 p hp with⟨a,_,b⟩|⟨w,a,_,b⟩
  .exact .inl ⟨a,b⟩
  .exact .inr ⟨w,a,b⟩)
 have jV:=join_best (b:=J.getD p []) Y (by
  rcases f3 p hp with⟨a,b,_⟩|⟨w,a,b,_⟩
  .exact .inl ⟨a,b⟩
  .exact .inr ⟨w,a,b⟩)
 have a0:R≠[]:=fun z=>by have:=h.lR;rw[z]at this;simp at this;omega
 have a2:G≠[]:=fun z=>by have:=h.lG;rw[z]at this;simp at this;omega
 refine⟨U.set p (p::u),V.set p (p::v),R.set p (if m6 (j.getD p []) (p::u)=true then j.getD p []else p::u),G.set p (if m6 (J.getD p []) (p::v)=true then J.getD p []else p::v),?_,?_⟩
 .unfold b_Z7_f0
  have M:∀(ρ:Ro)(i k:Nat)(d:Bool)(T:List (List Nat)),ρ[i]? =some (some (.own (T.map L)))->i≠10->i≠k->k≠10->i<11->ρ.length=11->ρ[k]? =some (some (.sh (.lst ((Ab η s d).map L))))->ρ[10]? =some (k0b p)->T.length=η.length->T≠[]->
    p6 (mborL i (r6 m_Z6 (y0 (mvar i) (y0 (mix (bvar k) (mvar 10)) anil)))) ρ=some ((flD ((abv η s d p).map fun q=>T.getD q [])).map dN):=by
   intro ρ i k d T hi N a1 a3 a4 hl hk O lT hT
   refine o9 (borL_ev hi ?_ (tell_L T _ hT))
   have g1:mvar i (ρ.set i (some (.sh (.lst (T.map L)))))=some (.lst (T.map L)):=by
    unfold mvar
    rw[List.getElem?_set_self (by omega)]
   have g2:mix (bvar k) (mvar 10) (ρ.set i (some (.sh (.lst (T.map L)))))=some (L (abv η s d p)):=by
    refine j0 (ds:=(Ab η s d).map L) (k:=(p:Int)) ?_ ?_ ?_
    .unfold bvar;rw[List.getElem?_set_ne a1,hk]
    .unfold mvar;rw[List.getElem?_set_ne N,O]
    .rw[at_L _ p (by rw[G4];exact hp),Ab_get η s d p hp]
   exact w9 (z8 g1 (z8 g2 y7)) (O1 T (abv η s d p) (by have:=G3 η s d p;omega) fun q I=>by have:=ab d q I;omega)
  have put:∀(ρ:Ro)(m:ML)(w:List Nat),ρ[10]? =some (k0b p)->m ρ=some (w.map dN)->w.length+1<=η.length->mlst (mcat (t5 (y0 (mvar 10) anil)) m) ρ=some (L (p::w)):=by
   intro ρ m w N hm hw
   have g:mvar 10 ρ=some (.int (p:Int)):=by unfold mvar;rw[N]
   rw[n5 (mcat_ev (o8 (z8 g y7) i1) hm (by rw[List.length_map,List.length_singleton];exact v6 (by omega)))]
   rfl
  refine seqI (ρ':=envT η s J j (U.set p (p::u)) V R G (k0b p)) ?_ (seqI (ρ':=envT η s J j (U.set p (p::u)) (V.set p (p::v)) R G (k0b p)) ?_ (seqI (ρ':=envT η s J j (U.set p (p::u)) (V.set p (p::v)) (R.set p (if m6 (j.getD p []) (p::u)=true then j.getD p []else p::u)) G (k0b p)) ?_ ?_))
  .exact setL_ev (A:=U) rfl rfl (put _ _ u rfl (by rw[M _ 8 2 true R rfl (by decide) (by decide) (by decide) (by decide) rfl rfl rfl h.lR a0,eU]) lu) (by rw[h.lU];exact hp)
  .exact setL_ev (A:=V) rfl rfl (put _ _ v rfl (by rw[M _ 9 3 false G rfl (by decide) (by decide) (by decide) (by decide) rfl rfl rfl h.lG a2,eV]) lv) (by rw[h.lV];exact hp)
  .refine setL_ev (A:=R) rfl rfl (min2_L (a:=p::u) (b:=j.getD p []) ?_ ?_) (by rw[h.lR];exact hp)
   .exact j0 (m:=bvar 6) rfl rfl ((at_L (U.set p (p::u)) p (by rw[List.length_set,h.lU];exact hp)).trans (by rw[i4 _ _ _ (by rw[h.lU];exact hp)]))
   .exact j0 (m:=bvar 5) rfl rfl (at_L j p (by rw[f2];exact hp))
  .refine setL_ev (A:=G) rfl rfl (min2_L (a:=p::v) (b:=J.getD p []) ?_ ?_) (by rw[h.lG];exact hp)
   .exact j0 (m:=bvar 7) rfl rfl ((at_L (V.set p (p::v)) p (by rw[List.length_set,h.lV];exact hp)).trans (by rw[i4 _ _ _ (by rw[h.lV];exact hp)]))
   .exact j0 (m:=bvar 4) rfl rfl (at_L J p (by rw[f1];exact hp))
 .refine⟨by rw[List.length_set];exact h.lU,by rw[List.length_set];exact h.lV,by rw[List.length_set];exact h.lR,by rw[List.length_set];exact h.lG,fun q h1 h2=>?_⟩
  by_cases I:p=q
  .subst I
   rw[i4 _ _ _ (by rw[h.lU];exact hp),i4 _ _ _ (by rw[h.lV];exact hp),i4 _ _ _ (by rw[h.lR];exact hp),i4 _ _ _ (by rw[h.lG];exact hp)]
   exact⟨Z,Y,jU,jV⟩
  .rw[W2 _ _ _ _ I,W2 _ _ _ _ I,W2 _ _ _ _ I,W2 _ _ _ _ I]
   exact h.at' q (by omega) h2
theorem nils_ev (n:Nat)(hn:n<=300)(ρ:Ro)(m:ML)(ds:List D)(hm:m ρ=some ds)(hd:ds.length=n):mrep (t5 (y0 (mlst (t5 anil)) anil)) (mlen m) ρ=some ((List.replicate n ([]:List Nat)).map L):=by
 have i1:0+1<=sizeLine:=v6 (by decide)
 have i:=g0
 rw[mrep_ev (ds:=[.lst []]) (k:=(n:Int)) (o8 (z8 (n5 (o8 y7 (Nat.zero_le _))) y7) i1) (by rw[l7 hm,hd]) (by unfold repOk;simp only[Bool.and_eq_true,decide_eq_true_eq,List.length_singleton];omega),Int.toNat_natCast]
 congr 1
 rw[List.map_replicate,List.flatten_replicate_singleton]
 rfl
theorem rep_get (n q:Nat):(List.replicate n ([]:List Nat)).getD q []=[]:=by
 rw[List.getD_eq_getElem?_getD,List.getElem?_replicate]
 split <;> rfl
theorem e8 {η:List Int}{s:Int}{t:Nat}{J z:List (List Nat)}(N:η.length<=300)(Y:Few η s t J z):
  ∃ U V,m_Z7 [SP η s,.tup [.lst (J.map L),.lst (z.map L)]]=some (.sh (.tup [.lst (U.map L),.lst (V.map L)]))/\Few η s (t+1) U V:=by
 suffices h:Run b_Z7 (p9 11 [SP η s,.tup [.lst (J.map L),.lst (z.map L)]]) (fun o=>∃ U V:List (List Nat),o= .rt (.tup [.lst (U.map L),.lst (V.map L)])/\Few η s (t+1) U V)by
  obtain⟨o,e,U,V,rfl,r⟩:=h
  exact⟨U,V,h8 e,r⟩
 unfold b_Z7
 have O:okR (η.length:Int)=true:=V5 (by omega) (by omega)
 have i2:2<=sizeLine:=v6 (by decide)
 refine u0 (ρ':=[some (.sh (SP η s)),some (.sh (.tup [.lst (J.map L),.lst (z.map L)])),some (.sh (.lst ((Ab η s true).map L))),some (.sh (.lst ((Ab η s false).map L))),none,none,none,none,none,none,none]) rfl ?_
 refine u0 (ρ':=[some (.sh (SP η s)),some (.sh (.tup [.lst (J.map L),.lst (z.map L)])),some (.sh (.lst ((Ab η s true).map L))),some (.sh (.lst ((Ab η s false).map L))),some (.sh (.lst (J.map L))),some (.sh (.lst (z.map L))),none,none,none,none,none]) rfl ?_
 have M:∀(i:Nat)(ρ:Ro),bvar 2 ρ=some ((Ab η s true).map L)->Z0 i (mrep (t5 (y0 (mlst (t5 anil)) anil)) (mlen (bvar 2))) ρ=some (.nx (ρ.set i (some (.own ((List.replicate η.length ([]:List Nat)).map L))))):=fun i ρ Z=>by
  unfold Z0
  rw[nils_ev η.length N ρ (bvar 2) _ Z (by rw[List.length_map,G4])]
  rfl
 refine u0 (M 6 _ rfl) (u0 (M 7 _ rfl) (u0 (M 8 _ rfl) (u0 (ρ':=envT η s J z (List.replicate η.length []) (List.replicate η.length []) (List.replicate η.length []) (List.replicate η.length []) none) (M 9 _ rfl) ?_)))
 have ed:E3 η.length=(List.range η.length).map fun(j:Nat)=>D.int ((η.length:Int)-1-(j:Int)):=rfl
 refine j4 (Z6 η.length (f:=fun(j:Nat)=>D.int ((η.length:Int)-1-(j:Int))) ?_
  (I:=fun j ρ=>∃ U V R G o,Tnd η s t (η.length-j) U V R G/\ρ=envT η s J z U V R G o) _
  ⟨_,_,_,_,_,⟨by simp,by simp,by simp,by simp,fun q h1 h2=>by omega⟩,rfl⟩ ?_ ?_)
 .unfold p8
  rw[z8 (x:=mlen (bvar 2)) (d:=.int (((Ab η s true).map L).length:Int)) (l7 rfl) y7,Option.bind_some,List.length_map,G4,rngD_ok O,Int.toNat_natCast,ed]
 .rintro j ρ hj ⟨U,V,R,G,o,h,rfl⟩
  have e:(η.length:Int)-1-(j:Int)=((η.length-1-j:Nat):Int):=by omega
  rw[e]
  refine⟨envT η s J z U V R G (some (.sh (.int ((η.length-1-j:Nat):Int)))),rfl,?_⟩
  have e2:η.length-1-j+1=η.length-j:=by omega
  obtain⟨U',V',R',G',eb,hT⟩:=turn_body (o:=o) N (show η.length-1-j<η.length by omega) Y (by rw[e2];exact h)
  exact⟨_,eb,U',V',R',G',_,by rw[show η.length-(j+1)=η.length-1-j by omega];exact hT,rfl⟩
 .rintro ρ ⟨U,V,R,G,o,h,rfl⟩
  rw[Nat.sub_self]at h
  unfold b_Z7_r1
  refine h7 (ds:=U.map L) rfl (h7 (ds:=V.map L) rfl ⟨_,S2 (mtup_ev (z8 (d:=.lst (U.map L)) rfl (z8 (d:=.lst (V.map L)) rfl y7)) i2),U,V,rfl,h.lU,h.lV,fun q S=>?_⟩)
  obtain⟨a,b,_⟩:=h.at' q (Nat.zero_le _) S
  exact .inr ⟨t,rfl,a,b⟩
end
section
open PySem L2
theorem gt_dn (a b:Nat):gtI (dN b) (dN a)=some (decide (a<b)):=by
 show some (decide ((a:Int)<(b:Int)))=_
 congr 1
 apply decide_eq_decide.mpr
 omega
theorem maxP_dn:∀(ns:List Nat)(a:Nat),∃ v,maxP (ns.map dN) (dN a)=some (dN v)/\(∀ y∈a::ns,y<=v)/\v∈a::ns
 |[],a=>⟨a,rfl,by simp,by simp⟩
 |b::ns,a=>by
  rw[List.map_cons,maxP,gt_dn]
  by_cases h:a<b
  .rw[decide_eq_true h]
   obtain⟨v,e,i,q⟩:=maxP_dn ns b
   refine⟨v,e,fun y j=>?_,List.mem_cons_of_mem _ q⟩
   rcases List.mem_cons.mp j with z|z
   .have:=i b (by simp);omega
   .exact i y z
  .rw[decide_eq_false h]
   obtain⟨v,e,i,q⟩:=maxP_dn ns a
   refine⟨v,e,fun y j=>?_,?_⟩
   .rcases List.mem_cons.mp j with z|z
    .exact i y (by simp[z])
    .rcases List.mem_cons.mp z with z|z
     .have:=i a (by simp);omega
     .exact i y (by simp[z])
   .rcases List.mem_cons.mp q with z|z
    .simp[z]
    .simp[z]
theorem maxE_dn (ns:List Nat):∃ v,maxE (ns.map dN) (.int 0)=some (dN v)/\(∀ y∈ns,y<=v)/\(ns=[]/\v=0\/v∈ns):=by
 cases ns with
 |nil=>exact⟨0,rfl,by simp,.inl ⟨rfl,rfl⟩⟩
 |cons a ns=>
  obtain⟨v,e,j,i⟩:=maxP_dn ns a
  exact⟨v,e,j,.inr i⟩
end
section
open PySem L2
theorem nils_few (η:List Int)(s:Int):Few η s 0 (List.replicate η.length []) (List.replicate η.length []):=
 ⟨by simp,by simp,fun q _=>.inl ⟨rfl,rep_get _ _,rep_get _ _⟩⟩
noncomputable abbrev TP2 (U V:List (List Nat)):D:=.tup [.lst (U.map L),.lst (V.map L)]
theorem K7 (η:List Int)(i:η.length<=300):m_Z18 [RI η]=some (.sh (TP2 (List.replicate η.length []) (List.replicate η.length []))):=by
 unfold m_Z18 b_Z18
 have i2:2<=sizeLine:=v6 (by decide)
 have e:=nils_ev η.length i (p9 1 [RI η]) (bvar 0) _ rfl (by rw[List.length_map])
 exact h8 (S2 (mtup_ev (z8 (n5 e) (z8 (n5 e) y7)) i2))
noncomputable abbrev BTn (η:List Int)(s:Int)(t:Nat):List Nat->Prop:=Best (Tn (xr η) η.length s t)
theorem Z3 {η:List Int}{s:Int}{t:Nat}{U V:List (List Nat)}(N:η.length<=300)(h:Few η s (t+1) U V):∃ l,F9 [TP2 U V]=some (.sh (L l))/\BTn η s t l:=by
 obtain⟨R,O,hd⟩:=h
 have hd:∀ q,q<η.length->BS η s t true q (U.getD q [])/\BS η s t false q (V.getD q []):=fun q j=>by
  rcases hd q j with⟨z,_⟩|⟨u,e,a,b⟩
  .omega
  .have:u=t:=by omega
   subst this
   exact⟨a,b⟩
 have i:∃ l,minD (fun d=>shOf (Y2 [d])) ((U++V).map L) (.lst [])=some (L l)/\BTn η s t l:=by
  cases hc:U++V with
  |nil=>
   have:η.length=0:=by
    have:=congrArg List.length hc
    rw[List.length_append,List.length_nil]at this
    omega
   exact⟨[],rfl,best_turns0 this⟩
  |cons b G=>
   obtain⟨r,e,h1,h2⟩:=N7 (mk:=fun d=>shOf (Y2 [d])) ek G b
   refine⟨r,?_,?_⟩
   .show (match shOf (Y2 [L b])with |some I=>minF _ (G.map L) (L b) I|none=>none)=_
    rw[ek b]
    exact e
   .rw[<-hc]at h1 h2
    have all:∀ m∈U++V,∃ d q,BS η s t d q m:=by
     intro m hm
     rcases List.mem_append.mp hm with h|h
     .obtain⟨q,j,rfl⟩:=N8 h
      exact⟨true,q,(hd q (by omega)).1⟩
     .obtain⟨q,j,rfl⟩:=N8 h
      exact⟨false,q,(hd q (by omega)).2⟩
    refine best_turns h1 h2 (fun m hm=>?_) (fun d p hp=>?_) ?_
    .obtain⟨d,q,h⟩:=all m hm
     exact .inr ⟨d,h.1.1⟩
    .cases d
     .exact⟨_,List.mem_append_right _ (M0 (q:=p) (by omega)),(hd p hp).2⟩
     .exact⟨_,List.mem_append_left _ (M0 (q:=p) (by omega)),(hd p hp).1⟩
    .obtain⟨d,q,h⟩:=all r h1
     intro z
     rw[z]at h
     exact h.1.1
 obtain⟨l,e,M⟩:=i
 refine⟨l,?_,M⟩
 unfold F9 b_Z10
 refine U2 (u0 (ρ':=[some (.sh (TP2 U V)),some (.sh (.lst (U.map L))),some (.sh (.lst (V.map L)))]) rfl ⟨_,?_,rfl⟩)
 have e1:p6 (m2 addD (mvar 1) (mvar 2)) [some (.sh (TP2 U V)),some (.sh (.lst (U.map L))),some (.sh (.lst (V.map L)))]=some ((U++V).map L):=by
  have J:(U.map L).length+(V.map L).length<=sizeLine:=v6 (by simp;omega)
  refine o9 ?_
  unfold m2
  show (if (U.map L).length+(V.map L).length<=sizeLine then some (D.lst (U.map L++V.map L))else none)=_
  rw[if_pos J,List.map_append]
 unfold mret
 rw[mminK_ev e1 (n5 (o8 y7 (Nat.zero_le _))),e]
 rfl
theorem bt_same {η:List Int}{s:Int}{t u:Nat}{l:List Nat}(h:BTn η s t l)(e:∀ m,Tn (xr η) η.length s t m↔Tn (xr η) η.length s u m):BTn η s u l:=h.iff e
theorem tn_min {η:List Int}{s:Int}(k:Nat)(m:List Nat):Tn (xr η) η.length s (min k η.length) m↔Tn (xr η) η.length s k m:=by
 constructor
 .exact fun h=>h.mono (Nat.min_le_left _ _)
 .intro h
  rcases Nat.le_total k η.length with z|z
  .rw[Nat.min_eq_left z];exact h
  .rw[Nat.min_eq_right z];exact h.all
theorem E8 {η:List Int}{s:Int}(i:η.length<=300){ρ:Ro}(j:mvar 0 ρ=some (RI η))(h1:mvar 1 ρ=some (.int s)):r6 m_Z15 (y0 (mvar 0) (y0 (mvar 1) anil)) ρ=some (SP η s):=
 w9 (z8 j (z8 h1 y7)) (E1 η s i)
theorem v4 (η:List Int)(s:Int)(k:Nat)(M:1<=s)(z:η.length<=300):∃ l,m_Z1 [RI η,.int s,.int (k:Int)]=some (.sh (L l))/\BTn η s k l:=by
 suffices h:Run b_Z1 (p9 6 [RI η,.int s,.int (k:Int)]) (fun o=>∃ l,o= .rt (L l)/\BTn η s k l)by
  obtain⟨o,e,l,rfl,r⟩:=h
  exact⟨l,h8 e,r⟩
 unfold b_Z1
 refine u0 (ρ':=[some (.sh (RI η)),k0c s,k0b k,none,none,none]) (mexpr_ev (w9 (z8 (d:=.int s) rfl y7) (g7 s M))) ?_
 refine u0 (ρ':=[some (.sh (RI η)),k0c s,k0b k,none,none,none]) (by rw[f7 (tLt_ev (i:=(k:Int)) (k:=0) rfl rfl),decide_eq_false (by omega)];rfl) ?_
 refine u0 (ρ':=[some (.sh (RI η)),k0c s,k0b k,some (.sh (SP η s)),none,none]) ((i8 (E8 z rfl rfl)).trans rfl) ?_
 refine u0 (ρ':=[some (.sh (RI η)),k0c s,k0b k,some (.sh (SP η s)),some (.sh (TP2 (List.replicate η.length []) (List.replicate η.length []))),none]) ((i8 (w9 (z8 (d:=RI η) rfl y7) (K7 η z))).trans rfl) ?_
 have J:okR ((min k η.length+1:Nat):Int)=true:=V5 (by omega) (by omega)
 have O:p8 rng1 (y0 (m2 addD (f9 S3 (y0 (mvar 2) (y0 (mlen (bvar 0)) anil))) (mc (.int 1))) anil) [some (.sh (RI η)),k0c s,k0b k,some (.sh (SP η s)),some (.sh (TP2 (List.replicate η.length []) (List.replicate η.length []))),none]=some ((List.range (min k η.length+1)).map dN):=by
  have e1:f9 S3 (y0 (mvar 2) (y0 (mlen (bvar 0)) anil)) [some (.sh (RI η)),k0c s,k0b k,some (.sh (SP η s)),some (.sh (TP2 (List.replicate η.length []) (List.replicate η.length []))),none]=some (.int ((min k η.length:Nat):Int)):=by
   unfold f9
   rw[z8 (d:=.int (k:Int)) rfl (z8 (l7 (m:=bvar 0) (ds:=η.map .int) rfl) y7),List.length_map]
   have q:(if (η.length:Int)<(k:Int)then (η.length:Int)else (k:Int))=((min k η.length:Nat):Int):=by split <;> omega
   show some (D.int (if (η.length:Int)<(k:Int)then (η.length:Int)else (k:Int)))=_
   rw[q]
  unfold p8
  rw[z8 ((j1 e1 rfl).trans (show addD (.int ((min k η.length:Nat):Int)) (.int 1)=some (.int ((min k η.length+1:Nat):Int))from rfl)) y7,Option.bind_some,rng1_ok J,Int.toNat_natCast,R1,List.map_map]
  rfl
 refine j4 (Z6 (min k η.length+1) (f:=dN) O
  (I:=fun j ρ=>∃ U V o,Few η s j U V/\ρ=[some (.sh (RI η)),k0c s,k0b k,some (.sh (SP η s)),some (.sh (TP2 U V)),o]) _ ⟨_,_,_,nils_few η s,rfl⟩ ?_ ?_)
 .rintro j ρ hj ⟨U,V,o,hf,rfl⟩
  obtain⟨S,R,e,G⟩:=e8 z hf
  refine⟨[some (.sh (RI η)),k0c s,k0b k,some (.sh (SP η s)),some (.sh (TP2 U V)),some (.sh (dN j))],rfl,⟨_,(show b_Z1_f0 _=_ from i8 (w9 (z8 (d:=SP η s) rfl (z8 (d:=TP2 U V) rfl y7)) e)),S,R,_,G,rfl⟩⟩
 .rintro ρ ⟨U,V,o,hf,rfl⟩
  obtain⟨l,e,N⟩:=Z3 z hf
  exact⟨_,S2 (w9 (z8 (d:=TP2 U V) rfl y7) e),l,rfl,bt_same N (tn_min k)⟩
noncomputable def Mx (η:List Int)(s:Int)(p m:Nat):Prop:=(∃ l d,Sd (xr η) η.length s l η.length d/\Hd p l/\l.length=m)/\∀ l t d,Sd (xr η) η.length s l t d->Hd p l->l.length<=m
theorem mx_step {η:List Int}{s:Int}{p v:Nat}{ms:Nat->Nat}(hp:p<η.length)(hm:∀ q,p<q->q<η.length->Mx η s q (ms q))
  (h1:∀ d,∀ q∈abv η s d p,ms q<=v) (h2:v=0\/∃ d,∃ q∈abv η s d p,ms q=v):Mx η s p (1+v):=by
 constructor
 .rcases h2 with rfl|⟨d,q,j,e⟩
  .exact⟨[p],true,hp,⟨[],rfl⟩,rfl⟩
  .obtain⟨a,b,c⟩:=abv_mem.mp j
   obtain⟨⟨l,d',i,⟨m,rfl⟩,e2⟩,_⟩:=hm q a b
   have J:Sd (xr η) η.length s (p::q::m) (η.length+1) d:=by
    refine⟨a,c,?_⟩
    by_cases hd:d'=d
    .subst hd;exact .inl (i.mono (by omega))
    .have:d'= !d:=by cases d <;> cases d' <;> simp_all
     subst this
     exact .inr ⟨η.length,rfl,i⟩
   have G:=J.len
   refine⟨p::q::m,d,J.enough.mono (by simp at G ⊢;omega),⟨_,rfl⟩,?_⟩
   rw[List.length_cons,e2,e];omega
 .rintro l t d i ⟨m,rfl⟩
  cases m with
  |nil=>simp
  |cons q m=>
   have j:q<η.length:=by
    rcases i.2.2 with z|⟨u,_,z⟩
    .exact z.lt
    .exact z.lt
   have I:=abv_mem.mpr ⟨i.1,j,i.2.1⟩
   have:=h1 d q I
   have L:(q::m).length<=ms q:=by
    rcases i.2.2 with z|⟨u,_,z⟩
    .exact(hm q i.1 j).2 _ _ _ z ⟨_,rfl⟩
    .exact(hm q i.1 j).2 _ _ _ z ⟨_,rfl⟩
   rw[List.length_cons];omega
noncomputable def envM (η:List Int)(s:Int)(ms:List Nat)(o:Option S):Ro:=[some (.sh (SP η s)),some (.sh (.lst ((Ab η s true).map L))),some (.sh (.lst ((Ab η s false).map L))),some (.own (ms.map dN)),o]
theorem at_dn (ms:List Nat)(p:Nat)(h:p<ms.length):atI (ms.map dN) (p:Int)=some (dN (ms.getD p 0)):=by
 have:=atI_map dN ms (p:Int) (by omega) (by omega) 0
 rw[Int.toNat_natCast]at this
 exact this
theorem most_body {η:List Int}{s:Int}{p:Nat}{ms:List Nat}{o:Option S}(M:η.length<=300)(hp:p<η.length)(R:ms.length=η.length)(h:∀ q,p<q->q<η.length->Mx η s q (ms.getD q 0)):
  ∃ v,b_Z12_f0 (envM η s ms (k0b p))=some (.nx (envM η s (ms.set p v) (k0b p)))/\Mx η s p v:=by
 unfold b_Z12_f0
 have N:∀(d:Bool),∀ q∈abv η s d p,q<ms.length:=fun d q i=>by rw[R];exact(abv_mem.mp i).2.1
 have e1:p6 (m2 addD (mix (bvar 1) (mvar 4)) (mix (bvar 2) (mvar 4))) (envM η s ms (k0b p))=some ((abv η s true p++abv η s false p).map dN):=by
  refine o9 ?_
  have J:mix (bvar 1) (mvar 4) (envM η s ms (k0b p))=some (L (abv η s true p)):=j0 (ds:=(Ab η s true).map L) (k:=(p:Int)) rfl rfl (by rw[at_L _ p (by rw[G4];exact hp),Ab_get η s true p hp])
  have I:mix (bvar 2) (mvar 4) (envM η s ms (k0b p))=some (L (abv η s false p)):=j0 (ds:=(Ab η s false).map L) (k:=(p:Int)) rfl rfl (by rw[at_L _ p (by rw[G4];exact hp),Ab_get η s false p hp])
  rw[j1 J I]
  have O:((abv η s true p).map dN).length+((abv η s false p).map dN).length<=sizeLine:=v6 (by have:=G3 η s true p;have:=G3 η s false p;simp;omega)
  show (if ((abv η s true p).map dN).length+((abv η s false p).map dN).length<=sizeLine then some (D.lst ((abv η s true p).map dN++(abv η s false p).map dN))else none)=_
  rw[if_pos O,List.map_append]
 have e2:J1 [none,some 3] (p6 (m2 addD (mix (bvar 1) (mvar 4)) (mix (bvar 2) (mvar 4)))) (.nm 0) cyes (mix (bvar 1) (mvar 0)) (envM η s ms (k0b p))=some (((abv η s true p++abv η s false p).map fun q=>ms.getD q 0).map dN):=by
  unfold J1
  rw[e1,Option.bind_some]
  refine(i9 (f:=dN) (G:=fun q=>dN (ms.getD q 0)) (fun ks ρ=>(∀ q∈ks,q<ms.length)/\∃ x,ρ=[x,some (.own (ms.map dN))]) (by
   rintro q ks ρ ⟨hh,x,rfl⟩
   exact⟨[some (.sh (dN q)),some (.own (ms.map dN))],rfl,rfl,j0 (m:=bvar 1) rfl rfl (at_dn ms q (hh q (by simp))),fun r M=>hh r (by simp[M]),_,rfl⟩) _ _ [] ⟨fun q i=>?_,none,rfl⟩ (v6 ?_)).trans ?_
  .rcases List.mem_append.mp i with z|z
   .exact N true q z
   .exact N false q z
  .have:=G3 η s true p;have:=G3 η s false p
   simp;omega
  .rw[List.nil_append,List.map_map];rfl
 obtain⟨v,U,J,I⟩:=maxE_dn ((abv η s true p++abv η s false p).map fun q=>ms.getD q 0)
 refine⟨1+v,?_,?_⟩
 .have e3:m2 addD (mc (.int 1)) (mmaxE (J1 [none,some 3] (p6 (m2 addD (mix (bvar 1) (mvar 4)) (mix (bvar 2) (mvar 4)))) (.nm 0) cyes (mix (bvar 1) (mvar 0))) (mc (.int 0))) (envM η s ms (k0b p))=some (dN (1+v)):=by
   rw[j1 (a:=.int 1) (b:=dN v) rfl ((mmaxE_ev e2 rfl).trans U)]
   have q:(1+(v:Int))=((1+v:Nat):Int):=by omega
   show some (D.int (1+(v:Int)))=some (D.int ((1+v:Nat):Int))
   rw[q]
  unfold f6
  rw[e3]
  show ((ixN (ms.map dN).length (p:Int)).map fun j=>Out.nx ((envM η s ms (k0b p)).set 3 (some (.own ((ms.map dN).set j (dN (1+v)))))))=_
  rw[List.length_map,ixN_nat _ _ (by omega)]
  show some (Out.nx _)=_
  rw[<-List.map_set]
  rfl
 .refine mx_step (ms:=fun q=>ms.getD q 0) hp h (fun d q i=>J _ (List.mem_map.mpr ⟨q,?_,rfl⟩)) ?_
  .cases d
   .exact List.mem_append_right _ i
   .exact List.mem_append_left _ i
  .rcases I with⟨_,z⟩|z
   .exact .inl z
   .obtain⟨q,i,e⟩:=List.mem_map.mp z
    rcases List.mem_append.mp i with i|i
    .exact .inr ⟨true,q,i,e⟩
    .exact .inr ⟨false,q,i,e⟩
theorem getD_setN (ms:List Nat)(p q v:Nat)(h:p<ms.length):(ms.set p v).getD q 0=if p=q then v else ms.getD q 0:=by
 rw[List.getD_eq_getElem?_getD,List.getD_eq_getElem?_getD]
 by_cases e:p=q
 .subst e;rw[List.getElem?_set_self h,if_pos rfl];rfl
 .rw[List.getElem?_set_ne e,if_neg e]
theorem K8 (η:List Int)(s:Int)(R:η.length<=300):∃ M,m_Z12 [SP η s]=some (.sh (dN M))/\(∀ t l,Tn (xr η) η.length s t l->l.length<=M)/\∃ l,Tn (xr η) η.length s η.length l/\l.length=M:=by
 suffices h:Run b_Z12 (p9 5 [SP η s]) (fun o=>∃ M,o= .rt (dN M)/\(∀ t l,Tn (xr η) η.length s t l->l.length<=M)/\∃ l,Tn (xr η) η.length s η.length l/\l.length=M)by
  obtain⟨o,e,M,rfl,r⟩:=h
  exact⟨M,h8 e,r⟩
 unfold b_Z12
 have N:okR (η.length:Int)=true:=V5 (by omega) (by omega)
 have i1:0+1<=sizeLine:=v6 (by decide)
 have a0:=g0
 refine u0 (ρ':=[some (.sh (SP η s)),some (.sh (.lst ((Ab η s true).map L))),some (.sh (.lst ((Ab η s false).map L))),none,none]) rfl ?_
 refine u0 (ρ':=envM η s (List.replicate η.length 0) none) ?_ ?_
 .unfold Z0
  rw[mrep_ev (ds:=[.int 0]) (k:=(η.length:Int)) (o8 (z8 (d:=.int 0) rfl y7) i1) (by rw[l7 (m:=bvar 1) (ds:=(Ab η s true).map L) rfl,List.length_map,G4]) (by unfold repOk;simp only[Bool.and_eq_true,decide_eq_true_eq,List.length_singleton];omega),Int.toNat_natCast,List.flatten_replicate_singleton]
  show some (Out.nx _)=_
  unfold envM
  rw[List.map_replicate]
  rfl
 have Z:E3 η.length=(List.range η.length).map fun(j:Nat)=>D.int ((η.length:Int)-1-(j:Int)):=rfl
 refine j4 (Z6 η.length (f:=fun(j:Nat)=>D.int ((η.length:Int)-1-(j:Int))) ?_
  (I:=fun j ρ=>∃ ms o,ms.length=η.length/\(∀ q,η.length-j<=q->q<η.length->Mx η s q (ms.getD q 0))/\ρ=envM η s ms o) _
  ⟨_,_,by simp,fun q h1 h2=>by omega,rfl⟩ ?_ ?_)
 .unfold p8
  rw[z8 (x:=mlen (bvar 1)) (d:=.int (((Ab η s true).map L).length:Int)) (l7 rfl) y7,Option.bind_some,List.length_map,G4,rngD_ok N,Int.toNat_natCast,Z]
 .rintro j ρ hj ⟨ms,o,hl,h,rfl⟩
  have e:(η.length:Int)-1-(j:Int)=((η.length-1-j:Nat):Int):=by omega
  rw[e]
  refine⟨envM η s ms (some (.sh (.int ((η.length-1-j:Nat):Int)))),rfl,?_⟩
  obtain⟨v,eb,O⟩:=most_body (o:=o) R (show η.length-1-j<η.length by omega) hl fun q h1 h2=>h q (by omega) h2
  refine⟨_,eb,ms.set (η.length-1-j) v,_,by rw[List.length_set];exact hl,fun q h1 h2=>?_,rfl⟩
  rw[getD_setN _ _ _ _ (by omega)]
  by_cases G:η.length-1-j=q
  .rw[if_pos G,<-G];exact O
  .rw[if_neg G];exact h q (by omega) h2
 .rintro ρ ⟨ms,o,hl,h,rfl⟩
  rw[Nat.sub_self]at h
  unfold b_Z12_r1
  obtain⟨v,Y,U,S⟩:=maxE_dn ms
  refine h7 (ds:=ms.map dN) rfl ⟨_,S2 ((mmaxE_ev (ds:=ms.map dN) (d0:=.int 0) rfl rfl).trans Y),v,rfl,fun t l J=>?_,?_⟩
  .rcases J with rfl|⟨d,i⟩
   .simp
   .cases l with
    |nil=>exact i.elim
    |cons p l=>
     have hp:=i.lt
     refine Nat.le_trans ((h p (Nat.zero_le _) hp).2 _ _ _ i ⟨_,rfl⟩) (U _ ?_)
     rw[List.getD_eq_getElem?_getD,List.getElem?_eq_getElem (by omega)]
     exact List.getElem_mem _
  .rcases S with⟨z,rfl⟩|z
   .exact⟨[],.inl rfl,rfl⟩
   .obtain⟨p,hp,e⟩:=List.getElem_of_mem z
    obtain⟨⟨l,d,i,hH,e2⟩,_⟩:=h p (Nat.zero_le _) (by omega)
    refine⟨l,.inr ⟨d,i⟩,?_⟩
    rw[e2,List.getD_eq_getElem?_getD,List.getElem?_eq_getElem hp,<-e];rfl
end
section
open PySem L2
theorem while_run {c:MB}{body:MS}{I:Nat->Ro->Prop}{Q:Ro->Prop}
  (h:∀ k ρ,I k ρ->(c ρ=some false/\Q ρ)\/(c ρ=some true/\∃ ρ',body ρ=some (.nx ρ')/\∃ i,i<k/\I i ρ')):
  ∀(f k:Nat)(ρ:Ro),k<f->I k ρ->∃ ρ',S9 c body f ρ=some (.nx ρ')/\Q ρ'
 |0,k,ρ,hk,_=>by omega
 |f+1,k,ρ,hk,hI=>by
  unfold S9
  rcases h k ρ hI with⟨j,G⟩|⟨j,ρ',L,i,J,z⟩
  .exact⟨ρ,by rw[j],G⟩
  .obtain⟨ρ2,e,q⟩:=while_run h f i ρ' (by omega) z
   refine⟨ρ2,?_,q⟩
   rw[j]
   simp only[L]
   exact e
noncomputable def Kt (η:List Int)(s:Int)(t k:Nat):Prop:=∃ l,BTn η s t l/\l.length=k
theorem Kt.uniq {η:List Int}{s:Int}{t a b:Nat}(h1:Kt η s t a)(h2:Kt η s t b):a=b:=by
 obtain⟨l,i,rfl⟩:=h1
 obtain⟨m,hm,rfl⟩:=h2
 rw[i.unique hm]
theorem Kt.mono {η:List Int}{s:Int}{t u a b:Nat}(h1:Kt η s t a)(h2:Kt η s u b)(h:t<=u):a<=b:=by
 obtain⟨l,i,rfl⟩:=h1
 obtain⟨m,hm,rfl⟩:=h2
 exact hm.len l (i.1.mono h)
structure Kpt (η:List Int)(s:Int)(ks:List Nat):Prop where
 pos:0<ks.length
 few:ks.length<=η.length+1
 at':∀ i,i<ks.length->Kt η s i (ks.getD i 0)
 last:∀ t k,Kt η s t k->k<=ks.getD (ks.length-1) 0
 less:∀ i,i+1<ks.length->ks.getD i 0<ks.getD (ks.length-1) 0
noncomputable def envK (η:List Int)(s:Int)(M:Nat)(U V:List (List Nat))(ks:List Nat):Ro:=[some (.sh (RI η)),k0c s,some (.sh (SP η s)),some (.sh (dN M)),some (.sh (TP2 U V)),some (.own (ks.map dN))]
theorem at_last (ks:List Nat)(h:0<ks.length):atI (ks.map dN) (-1)=some (dN (ks.getD (ks.length-1) 0)):=by
 unfold atI ixN
 rw[List.length_map,if_neg (by decide),if_pos (by omega)]
 have e:(-1+(ks.length:Int)).toNat=ks.length-1:=by omega
 rw[e]
 rw[Option.bind_some,List.getElem?_map,List.getD_eq_getElem?_getD,List.getElem?_eq_getElem (by omega)]
 rfl
theorem getD_app (ks:List Nat)(v i:Nat):(ks++[v]).getD i 0=if i<ks.length then ks.getD i 0 else if i=ks.length then v else 0:=by
 rw[List.getD_eq_getElem?_getD,List.getD_eq_getElem?_getD]
 by_cases h:i<ks.length
 .rw[if_pos h,List.getElem?_append_left h]
 .rw[if_neg h,List.getElem?_append_right (by omega)]
  by_cases h2:i=ks.length
  .rw[if_pos h2,h2,Nat.sub_self];rfl
  .rw[if_neg h2,List.getElem?_eq_none (by simp;omega)];rfl
theorem j6 (η:List Int)(s:Int)(hs:1<=s)(G:η.length<=300):∃ ks,m_Z9 [RI η,.int s]=some (.fr (ks.map dN))/\Kpt η s ks:=by
 obtain⟨M,eM,a1,lM,a3,a7⟩:=K8 η s G
 have i1:0+1<=sizeLine:=v6 (by decide)
 have a8:=g0
 suffices h:Run b_Z9 (p9 6 [RI η,.int s]) (fun o=>∃ ks:List Nat,o= .rf (ks.map dN)/\Kpt η s ks)by
  obtain⟨o,e,ks,rfl,r⟩:=h
  exact⟨ks,runB_rf e,r⟩
 unfold b_Z9
 refine u0 (ρ':=[some (.sh (RI η)),k0c s,none,none,none,none]) (mexpr_ev (w9 (z8 (d:=.int s) rfl y7) (g7 s hs))) ?_
 refine u0 (ρ':=[some (.sh (RI η)),k0c s,some (.sh (SP η s)),none,none,none]) ((i8 (E8 G rfl rfl)).trans rfl) ?_
 refine u0 (ρ':=[some (.sh (RI η)),k0c s,some (.sh (SP η s)),some (.sh (dN M)),none,none]) ((i8 (w9 (z8 (d:=SP η s) rfl y7) eM)).trans rfl) ?_
 obtain⟨U,V,e0,Z⟩:=e8 G (nils_few η s)
 obtain⟨R,a4,a2⟩:=Z3 G Z
 refine u0 (ρ':=[some (.sh (RI η)),k0c s,some (.sh (SP η s)),some (.sh (dN M)),some (.sh (TP2 U V)),none]) ((i8 (w9 (z8 (d:=SP η s) rfl (z8 (w9 (z8 (d:=RI η) rfl y7) (K7 η G)) y7)) e0)).trans rfl) ?_
 have tl:∀(ρ:Ro)(U V:List (List Nat))(l:List Nat),mvar 4 ρ=some (TP2 U V)->F9 [TP2 U V]=some (.sh (L l))->mlen (p6 (r6 F9 (y0 (mvar 4) anil))) ρ=some (dN l.length):=fun ρ U V l h4 h=>by
  rw[l7 (o9 (ds:=l.map dN) (w9 (z8 h4 y7) h)),List.length_map];rfl
 refine u0 (ρ':=envK η s M U V [R.length]) (by unfold Z0;rw[o8 (z8 (tl _ U V R rfl a4) y7) i1];rfl) ?_
 have hW:=while_run (c:=v3 (m2 ltD (mix (bvar 5) (m1 negD (mc (.int 1)))) (mvar 3))) (body:=b_Z9_f0)
  (I:=fun k ρ=>∃ U V ks,Few η s ks.length U V/\0<ks.length/\ks.length+k=η.length+1/\(∀ i,i<ks.length->Kt η s i (ks.getD i 0))/\(∀ i,i+1<ks.length->ks.getD i 0<M)/\ρ=envK η s M U V ks)
  (Q:=fun ρ=>∃ U V ks,Kpt η s ks/\ρ=envK η s M U V ks) ?_ 1000 η.length (envK η s M U V [R.length]) (by omega) ⟨U,V,[R.length],Z,by simp,by simp;omega,fun i hi=>?_,fun i hi=>by simp at hi,rfl⟩
 .obtain⟨ρ',e,O,N,ks,hk,rfl⟩:=hW
  refine u0 e ?_
  exact run_retO (ds:=ks.map dN) rfl ⟨ks,rfl,hk⟩
 .rintro k ρ ⟨U,V,ks,hf,hpos,hlen,hat,hless,rfl⟩
  have hc:v3 (m2 ltD (mix (bvar 5) (m1 negD (mc (.int 1)))) (mvar 3)) (envK η s M U V ks)=some (decide (ks.getD (ks.length-1) 0<M)):=by
   rw[tlt_ev (i:=((ks.getD (ks.length-1) 0:Nat):Int)) (j:=(M:Int)) (j0 (m:=bvar 5) (k:=-1) rfl rfl (at_last ks hpos)) rfl]
   have:((((ks.getD (ks.length-1) 0:Nat):Int)<(M:Int))↔ks.getD (ks.length-1) 0<M):=by omega
   rw[decide_eq_decide.mpr this]
  have q:=hat (ks.length-1) (by omega)
  have a5:ks.getD (ks.length-1) 0<=M:=by
   obtain⟨l,Y,e⟩:=q
   rw[<-e];exact a1 _ l Y.1
  by_cases J:ks.getD (ks.length-1) 0<M
  .rw[decide_eq_true J]at hc
   refine .inr ⟨hc,?_⟩
   have a6:ks.length<=η.length:=by
    rcases Nat.lt_or_ge η.length ks.length with z|z
    .exfalso
     obtain⟨l,Y,e⟩:=q
     have:lM.length<=l.length:=Y.len lM (a3.mono (by omega))
     omega
    .exact z
   obtain⟨O,N,e1,a0⟩:=e8 G hf
   obtain⟨l,el,hb⟩:=Z3 G a0
   refine⟨envK η s M O N (ks++[l.length]),?_,η.length-ks.length,by omega,O,N,ks++[l.length],by simpa using a0,by simp,by simp;omega,fun i hi=>?_,fun i hi=>?_,rfl⟩
   .unfold b_Z9_f0
    refine seqI (ρ':=envK η s M O N ks) ((i8 (w9 (z8 (d:=SP η s) rfl (z8 (d:=TP2 U V) rfl y7)) e1)).trans rfl) ?_
    unfold mapp
    rw[tl _ O N l rfl el]
    show (some (dN l.length)).bind (fun d=>if (ks.map dN).length<sizeLine then some (Out.nx ((envK η s M O N ks).set 5 (some (.own (ks.map dN++[d])))))else none)=_
    rw[Option.bind_some,if_pos (by rw[List.length_map];omega)]
    unfold envK
    rw[List.map_append]
    rfl
   .rw[getD_app]
    by_cases h:i<ks.length
    .rw[if_pos h];exact hat i h
    .have:i=ks.length:=by simp at hi;omega
     rw[if_neg h,if_pos this,this]
     exact⟨l,hb,rfl⟩
   .have hi:i<ks.length:=by simp at hi;omega
    rw[getD_app,if_pos hi]
    by_cases h:i+1<ks.length
    .exact hless i h
    .have:i=ks.length-1:=by omega
     rw[this];exact J
  .rw[decide_eq_false J]at hc
   have hM:ks.getD (ks.length-1) 0=M:=by omega
   exact .inl ⟨hc,U,V,ks,⟨hpos,by omega,hat,fun t k S=>by obtain⟨l,Y,e⟩:=S;rw[hM,<-e];exact a1 t l Y.1,fun i hi=>by rw[hM];exact hless i hi⟩,rfl⟩
 .have:i=0:=by simp at hi;omega
  subst this
  exact⟨R,a2,rfl⟩
noncomputable def Y3 (m:Nat):List Nat->Nat->Option Nat
 |[],_=>none
 |k::ks,i=>if m<=k then some i else Y3 m ks (i+1)
noncomputable def oD:Option Nat->D
 |some i=>dN i
 |none=>.non
theorem enum_dn:∀(ks:List Nat)(i:Nat),V9 i (ks.map dN)=(ks.zipIdx i).map fun p=>D.tup [.int (p.2:Int),dN p.1]
 |[],_=>rfl
 |k::ks,i=>by
  rw[List.map_cons,V9,enum_dn ks (i+1),List.zipIdx_cons,List.map_cons]
theorem Z4 (η:List Int)(s:Int)(m:Nat)(L:1<=s)(O:η.length<=300){ks:List Nat}(M:m_Z9 [RI η,.int s]=some (.fr (ks.map dN))):m_Z13 [RI η,.int s,.int (m:Int)]=some (.sh (oD (Y3 m ks 0))):=by
 unfold m_Z13 b_Z13
 refine U2 ?_
 refine u0 (ρ':=[some (.sh (RI η)),k0c s,k0b m,none,none]) (mexpr_ev (w9 (z8 (d:=.int s) rfl y7) (g7 s L))) ?_
 refine u0 (ρ':=[some (.sh (RI η)),k0c s,k0b m,none,none]) (by rw[f7 (tLt_ev (i:=(m:Int)) (k:=0) rfl rfl),decide_eq_false (by omega)];rfl) ?_
 have N:p8 E2 (y0 (r6 m_Z9 (y0 (mvar 0) (y0 (mvar 1) anil))) anil) [some (.sh (RI η)),k0c s,k0b m,none,none]=some ((ks.zipIdx 0).map fun p=>D.tup [.int (p.2:Int),dN p.1]):=by
  unfold p8
  rw[z8 (Q2 (z8 (d:=RI η) rfl (z8 (d:=.int s) rfl y7)) M) y7,Option.bind_some]
  show some (V9 0 (ks.map dN))=_
  rw[enum_dn]
 refine j4 (run_for (ks.zipIdx 0) (f:=fun p=>D.tup [.int (p.2:Int),dN p.1]) N
  (I:=fun ps ρ=>∃ q i G z,ps=List.zipIdx q i/\Y3 m ks 0=Y3 m q i/\ρ=[some (.sh (RI η)),k0c s,k0b m,G,z]) _ ⟨ks,0,_,_,rfl,rfl,rfl⟩ ?_ ?_)
 .rintro⟨k,j⟩ ps ρ ⟨q,i,G,z,e,ef,rfl⟩
  cases q with
  |nil=>cases e
  |cons a q=>
   rw[List.zipIdx_cons]at e
   obtain⟨e1,e2⟩:=List.cons.inj e
   cases e1
   refine⟨[some (.sh (RI η)),k0c s,k0b m,some (.sh (dN j)),some (.sh (dN k))],rfl,?_⟩
   unfold b_Z13_f0
   have J:v3 (m2 geD (mvar 4) (mvar 2)) [some (.sh (RI η)),k0c s,k0b m,some (.sh (dN j)),some (.sh (dN k))]=some (decide (m<=k)):=by
    rw[E7 (i:=(k:Int)) (j:=(m:Int)) rfl rfl]
    have:(((m:Int)<=(k:Int))↔m<=k):=by omega
    rw[decide_eq_decide.mpr this]
   refine L0 J ?_
   rw[Y3]at ef
   by_cases h:m<=k
   .rw[if_pos h]at ef
    rw[decide_eq_true h]
    refine⟨.rt (dN j),rfl,?_⟩
    show Out.rt (dN j)= .rt (oD (Y3 m ks 0))
    rw[ef];rfl
   .rw[if_neg h]at ef
    rw[decide_eq_false h]
    exact⟨_,rfl,q,j+1,_,_,e2,ef,rfl⟩
 .rintro ρ ⟨q,i,G,z,e,ef,rfl⟩
  cases q with
  |nil=>
   refine⟨.rt .non,rfl,?_⟩
   rw[ef];rfl
  |cons a q=>rw[List.zipIdx_cons]at e;cases e
end
section
open PySem L2
noncomputable def St (x:Nat->Int)(n:Nat)(s:Int):List Nat->Prop
 |[]=>True
 |[p]=>p<n
 |p::q::l=>p<q/\s<=((x q-x p).natAbs:Int)/\St x n s (q::l)
noncomputable def tnN (x:Nat->Int):List Nat->Nat
 |p::q::r::l=>(if 0<(x q-x p)*(x q-x r)then 1 else 0)+tnN x (q::r::l)
 |_=>0
theorem pos_mul {a b:Int}(ha:a≠0)(i:b≠0):0<a*b↔(0<a↔0<b):=by
 rcases Int.lt_or_lt_of_ne ha with h1|h1 <;> rcases Int.lt_or_lt_of_ne i with h2|h2
 .have:=Int.mul_pos_of_neg_of_neg h1 h2
  exact⟨fun _=>by omega,fun _=>this⟩
 .have:=Int.mul_neg_of_neg_of_pos h1 h2
  exact⟨fun h=>by omega,fun h=>by omega⟩
 .have:=Int.mul_neg_of_pos_of_neg h1 h2
  exact⟨fun h=>by omega,fun h=>by omega⟩
 .have:=Int.mul_pos h1 h2
  exact⟨fun _=>by omega,fun _=>this⟩
section
variable {x:Nat->Int}{n:Nat}{s:Int}
theorem far_iff (i:1<=s)(d:Bool)(a b:Int):far s d a b↔s<=((b-a).natAbs:Int)/\d=decide (0<b-a):=by
 unfold far
 cases d
 .simp only[Bool.false_eq_true,if_false]
  constructor
  .intro h;exact⟨by omega,(decide_eq_false (by omega)).symm⟩
  .rintro⟨h1,h2⟩
   have:=of_decide_eq_false h2.symm
   omega
 .simp only[if_true]
  constructor
  .intro h;exact⟨by omega,(decide_eq_true (by omega)).symm⟩
  .rintro⟨h1,h2⟩
   have:=of_decide_eq_true h2.symm
   omega
theorem sd_iff (M:1<=s):∀(l:List Nat)(t:Nat)(d:Bool),Sd x n s l t d↔l≠[]/\St x n s l/\tnN x l<=t/\∀ p q m,l=p::q::m->d=decide (0<x q-x p)
 |[],t,d=>⟨fun h=>h.elim,fun h=>absurd rfl h.1⟩
 |[p],t,d=>⟨fun h=>⟨by simp,h,Nat.zero_le _,fun _ _ _ e=>by simp at e⟩,fun h=>h.2.1⟩
 |p::q::l,t,d=>by
  have j:=sd_iff M (q::l)
  show (p<q/\far s d (x p) (x q)/\(Sd x n s (q::l) t d\/∃ u,t=u+1/\Sd x n s (q::l) u (!d)))↔_
  rw[far_iff M]
  constructor
  .rintro⟨h1,⟨h2,h3⟩,i⟩
   refine⟨by simp,⟨h1,h2,?_⟩,?_,fun L J m e=>by cases e;exact h3⟩
   .rcases i with i|⟨u,_,i⟩
    .exact((j t d).mp i).2.1
    .exact((j u (!d)).mp i).2.1
   .cases l with
    |nil=>exact Nat.zero_le _
    |cons r l=>
     show (if 0<(x q-x p)*(x q-x r)then 1 else 0)+tnN x (q::r::l)<=t
     rcases i with i|⟨u,e,i⟩
     .obtain⟨_,g1,g2,G⟩:=(j t d).mp i
      have G:=G q r l rfl
      have N:=g1.2.1
      have:¬ 0<(x q-x p)*(x q-x r):=by
       rw[pos_mul (by omega) (by omega)]
       rw[h3]at G
       have:=decide_eq_decide.mp G
       omega
      rw[if_neg this];omega
     .obtain⟨_,g1,g2,G⟩:=(j u (!d)).mp i
      split <;> omega
  .rintro⟨_,⟨h1,h2,h3⟩,i,h5⟩
   have hd:=h5 p q l rfl
   refine⟨h1,⟨h2,hd⟩,?_⟩
   cases l with
   |nil=>exact .inl ((j t d).mpr ⟨by simp,h3,Nat.zero_le _,fun _ _ _ e=>by simp at e⟩)
   |cons r l=>
    have i:(if 0<(x q-x p)*(x q-x r)then 1 else 0)+tnN x (q::r::l)<=t:=i
    have N:=h3.2.1
    have key:(0<(x q-x p)*(x q-x r))↔¬ (decide (0<x q-x p)=decide (0<x r-x q)):=by
     rw[pos_mul (by omega) (by omega),decide_eq_decide]
     omega
    by_cases I:0<(x q-x p)*(x q-x r)
    .rw[if_pos I]at i
     refine .inr ⟨t-1,by omega,(j (t-1) (!d)).mpr ⟨by simp,h3,by omega,fun L J m e=>?_⟩⟩
     cases e
     have:=key.mp I
     rw[<-hd]at this
     generalize decide (0<x r-x q)=b at this ⊢
     cases d <;> cases b <;> simp_all
    .rw[if_neg I]at i
     refine .inl ((j t d).mpr ⟨by simp,h3,by omega,fun L J m e=>?_⟩)
     cases e
     have:decide (0<x q-x p)=decide (0<x r-x q):=by
      apply Classical.byContradiction
      intro z
      exact I (key.mpr z)
     rw[hd,this]
theorem O3 (i:1<=s)(t:Nat)(l:List Nat):Tn x n s t l↔St x n s l/\tnN x l<=t:=by
 constructor
 .rintro(rfl|⟨d,h⟩)
  .exact⟨True.intro,Nat.zero_le _⟩
  .obtain⟨_,a,b,_⟩:=(sd_iff i l t d).mp h
   exact⟨a,b⟩
 .rintro⟨a,b⟩
  match l,a,b with
  |[],_,_=>exact .inl rfl
  |[p],a,b=>exact .inr ⟨true,a⟩
  |p::q::m,a,b=>exact .inr ⟨_,(sd_iff i _ t (decide (0<x q-x p))).mpr ⟨by simp,a,b,fun z j G e=>by cases e;rfl⟩⟩
theorem St.snoc:∀{l:List Nat}{k:Nat},St x n s (l++[k])↔St x n s l/\k<n/\∀ m p,l=m++[p]->p<k/\s<=((x k-x p).natAbs:Int)
 |[],k=>⟨fun h=>⟨True.intro,h,fun m p e=>by simp at e⟩,fun h=>h.2.1⟩
 |[p],k=>by
  show (p<k/\s<=((x k-x p).natAbs:Int)/\k<n)↔_
  constructor
  .rintro⟨a,b,c⟩
   refine⟨Nat.lt_trans a c,c,fun m q e=>?_⟩
   cases m with
   |nil=>cases e;exact⟨a,b⟩
   |cons r m=>cases m <;> simp at e
  .rintro⟨a,b,c⟩
   have:=c [] p rfl
   exact⟨this.1,this.2,b⟩
 |p::q::l,k=>by
  have i:=St.snoc (l:=q::l) (k:=k)
  show (p<q/\s<=((x q-x p).natAbs:Int)/\St x n s (q::l++[k]))↔_
  rw[i]
  constructor
  .rintro⟨a,b,c,d,e⟩
   refine⟨⟨a,b,c⟩,d,fun m r em=>?_⟩
   cases m with
   |nil=>simp at em
   |cons y m=>exact e m r (List.cons.inj em).2
  .rintro⟨⟨a,b,c⟩,d,e⟩
   exact⟨a,b,c,d,fun m r em=>e (p::m) r (by rw[em];rfl)⟩
theorem St.lt_last:∀{m:List Nat}{p:Nat},St x n s (m++[p])->∀ q∈m,q<p
 |[],_,_,q,i=>by cases i
 |[a],p,h,q,i=>by
  rw[List.mem_singleton.mp i];exact h.1
 |a::b::m,p,h,q,i=>by
  have h2:St x n s (b::m++[p]):=h.2.2
  have j:=St.lt_last h2
  rcases List.mem_cons.mp i with e|i
  .rw[e];exact Nat.lt_trans h.1 (j b (by simp))
  .exact j q i
noncomputable def lastN (l:List Nat):Nat:=l.getLastD 0
noncomputable def okS (x:Nat->Int)(s:Int)(k:Nat)(l:List Nat):Bool:=l.isEmpty || decide (s<=((x k-x (lastN l)).natAbs:Int))
noncomputable def stp (x:Nat->Int)(s:Int):Nat->List (List Nat)
 |0=>[[]]
 |k+1=>stp x s k++((stp x s k).filter (okS x s k)).map (·++[k])
theorem St.bound:∀{l:List Nat},St x n s l->∀ p∈l,p<n
 |[],_,p,hp=>by cases hp
 |[q],h,p,hp=>by rw[List.mem_singleton.mp hp];exact h
 |q::r::l,h,p,hp=>by
  have i:=St.bound h.2.2
  rcases List.mem_cons.mp hp with e|hp
  .rw[e];exact Nat.lt_trans h.1 (i r (by simp))
  .exact i p hp
end
end
section
open PySem L2
theorem Z1 {m:ME}{ρ:Ro}{d:D}(h:m ρ=some d):mpu m ρ=some (d,ρ):=by unfold mpu;rw[h]
theorem T3 {m:ML}{ρ:Ro}{d:List D}(h:m ρ=some d):apu m ρ=some (d,ρ):=by unfold apu;rw[h]
theorem X1 {f:D->D->Option D}{x y:MEm}{ρ ρ1 i:Ro}{d e g:D}(h1:x ρ=some (d,ρ1))(h2:y ρ1=some (e,i))(j:f d e=some g):m2m f x y ρ=some (g,i):=by
 unfold m2m;rw[h1];simp only;rw[h2];simp only;rw[j]
theorem e7 {x:MEm}{r:MLm}{ρ ρ1 i:Ro}{d:D}{ds:List D}(h1:x ρ=some (d,ρ1))(h2:r ρ1=some (ds,i)):d7 x r ρ=some (d::ds,i):=by
 unfold d7;rw[h1];simp only;rw[h2]
theorem mlstm_ev {m:MLm}{ρ ρ1:Ro}{ds:List D}(h:m ρ=some (ds,ρ1))(i:ds.length<=sizeLine):mlstm m ρ=some (.lst ds,ρ1):=by
 unfold mlstm;rw[h];simp only[i,if_true]
theorem call1m_ev {f:List D->Option D}{m:MLm}{ρ ρ1:Ro}{ds:List D}{d:D}(h:m ρ=some (ds,ρ1))(h2:f ds=some d):G1 f m ρ=some (d,ρ1):=by
 unfold G1;rw[h];simp only;rw[h2]
theorem g9 {i:Nat}{x:MEm}{ρ ρ1:Ro}{d:D}(h:x ρ=some (d,ρ1)):W8 i x ρ=some (.nx (ρ1.set i (some (.sh d)))):=by unfold W8;rw[h]
theorem X9 {i:Nat}{x:MEm}{ρ ρ1:Ro}{d:D}{p:Addr}{r:List D}(h:x ρ=some (d,ρ1))(h2:ρ1[i]? =some (some (.ob p r))):W0 i x ρ=some (.rg d p r):=by unfold W0;rw[h];simp only;rw[h2]
theorem mcallG_ob {f:MG}{i:Nat}{m:MLm}{ρ ρ1:Ro}{p:Addr}{r0 r1 r2 ds:List D}{t:Rt}{d:D}(z:ρ[i]? =some (some (.ob p r2)))(h1:m ρ=some (ds,ρ1))(h2:ρ1[i]? =some (some (.ob p r0)))(q:f p r0 ds=some (t,r1))(j:rtD t=some d):t9 f i m ρ=some (d,ρ1.set i (some (.ob p r1))):=by
 unfold t9;rw[z];simp only;rw[h1];simp only;rw[h2];simp only;rw[q];simp only;rw[j]
theorem U7 {f:MG}{i:Nat}{m:MLm}{ρ ρ1:Ro}{r0 r1 r2 ds:List D}{t:Rt}{d:D}(z:ρ[i]? =some (some (.own r2)))(h1:m ρ=some (ds,ρ1))(h2:ρ1[i]? =some (some (.own r0)))(q:∀ p,f p r0 ds=some (t,r1))(j:rtD t=some d):t9 f i m ρ=some (d,ρ1.set i (some (.own r1))):=by
 unfold t9;rw[z];simp only;rw[h1];simp only;rw[h2];simp only;rw[anyP_of q];simp only;rw[j]
theorem X5 {n:Nat}{m:MS}{p:Addr}{r i ds:List D}{d:D}(h:m (R0 n p r ds)=some (.rg d p i)):runG n m p r ds=some (.sh d,i):=by unfold runG;rw[h];simp only[if_true]
noncomputable def RL (a b:Int):List D:=[.int a,.int b]
theorem at3 (x y z:Int)(k:Int)(i:0<=k)(h1:k<3):∃ w,atI [D.int x,.int y,.int z] k=some (.int w)/\(w=x\/w=y\/w=z):=by
 have:k=0\/k=1\/k=2:=by omega
 rcases this with h|h|h <;> subst h
 .exact⟨_,rfl,by simp⟩
 .exact⟨_,rfl,by simp⟩
 .exact⟨_,rfl,by simp⟩
end
section
open PySem L2
theorem j2 (c k m:Int)(h:0<m)(h2:m<1073741824):∃ x Z U,0<=x/\x<m/\∀ p,h9 p (RL c k) [.int m]=some (.sh (.int x),RL Z U):=by
 have hp:((10:Int)^(18:Int).toNat)=10^18:=rfl
 have j:powOk 10 18=true:=by decide
 have J:∀ x y:Int,atI [D.int x,D.int y] 0=some (.int x):=fun _ _=>rfl
 have I:∀ x y:Int,atI [D.int x,D.int y] 1=some (.int y):=fun _ _=>rfl
 have z:ixN (0+1+1) 0=some 0:=rfl
 have q:ixN (0+1+1) 1=some 1:=rfl
 by_cases G:10^18<=c
 .refine⟨c % m,c / m,k+1,Int.emod_nonneg _ (by omega),Int.emod_lt_of_pos _ h,fun p=>?_⟩
  unfold h9
  refine X5 ?_
  unfold b_Z20 R0 RL
  simp_arith [hp,j,J,I,G,decide_true,if_true,W1 c m h,fdivOk_of c m h h2,z,q,W0,mpu,List.set_cons_zero,List.set_cons_succ]
 .have q3:∀ i,modOk i 2147483647=true:=fun i=>W1 _ _ (by decide)
  have N:∀ i,modOk i 2147483629=true:=fun i=>W1 _ _ (by decide)
  have M:∀ i,modOk i 2147483587=true:=fun i=>W1 _ _ (by decide)
  have L:∀ i,modOk i m=true:=fun i=>W1 _ _ h
  have Y:∀ i,fdivOk i 8=true:=fun i=>fdivOk_of _ _ (by decide) (by decide)
  have m1:∀ i,T0 i 69621=true:=fun i=>mulOk_r _ _ (by decide) (by decide)
  have m2:∀ i,T0 i 7919=true:=fun i=>mulOk_r _ _ (by decide) (by decide)
  have S:∀ i,T0 i 48271=true:=fun i=>mulOk_r _ _ (by decide) (by decide)
  have R:∀ i,T0 i 40692=true:=fun i=>mulOk_r _ _ (by decide) (by decide)
  have bb:=mod_cases (x:=c*69621+(k+1)*7919+13) (show (0:Int)<2147483647 by decide)
  have O:T0 ((c*69621+(k+1)*7919+13) % 2147483647) ((c*69621+(k+1)*7919+13) % 2147483647)=true:=mulOk_l _ _ (by omega) (by omega)
  refine⟨_,c,k+1,Int.emod_nonneg _ (by omega),Int.emod_lt_of_pos (((((c*69621+(k+1)*7919+13) % 2147483647)*((c*69621+(k+1)*7919+13) % 2147483647) % 2147483629)*48271+(k+1)*40692) % 2147483587 / 8) h,fun p=>?_⟩
  unfold h9
  refine X5 ?_
  unfold b_Z20 R0 RL
  simp_arith [hp,j,J,I,G,decide_false,if_true,q3,N,M,L,Y,m1,m2,S,R,O,z,q,W0,mpu,List.set_cons_zero,List.set_cons_succ]
noncomputable abbrev Nx (c k m x c' k':Int):Prop:=∀ p,h9 p (RL c k) [.int m]=some (.sh (.int x),RL c' k')
theorem l6 {p:Addr}{c k m x j i:Int}{e:ME}{tl:List (Option S)}(h:Nx c k m x j i)(q:e (some (.ob p (RL c k))::tl)=some (.int m)):t9 h9 0 (apu (y0 e anil)) (some (.ob p (RL c k))::tl)=some (.int x,some (.ob p (RL j i))::tl):=
 mcallG_ob (ρ:=some (.ob p (RL c k))::tl) rfl (T3 (z8 q y7)) rfl (h p) rfl
theorem G8 (c k kind:Int):∃ x U N,∀ p,m_Z2 p (RL c k) [.int kind]=some (.sh (.int x),RL U N):=by
 have i2:0+1+1<=sizeLine:=v6 (by decide)
 have i:∀(p:Addr)(j:Int),v3 (m2 eqSD (mvar 1) (mc (.int j))) [some (.ob p (RL c k)),k0c kind]=some (kind==j):=fun p j=>by unfold v3 m2;rfl
 by_cases J:kind=0
 .obtain⟨x,G,q,_,_,e⟩:=j2 c k 4 (by decide) (by decide)
  refine⟨x,G,q,fun p=>?_⟩
  unfold m_Z2 b_Z2
  refine X5 (k0 (o:=.rg (.int x) p (RL G q)) ?_)
  show mif _ _ _ [some (.ob p (RL c k)),k0c kind]=_
  rw[f7 (i p 0),show (kind==0)=true by rw[J];rfl]
  exact X9 (l6 e rfl) rfl
 .have f0:(kind==0)=false:=beq_eq_false_iff_ne.mpr J
  by_cases h1:kind=1
  .obtain⟨x,G,q,_,_,e⟩:=j2 c k 21 (by decide) (by decide)
   refine⟨x-10,G,q,fun p=>?_⟩
   unfold m_Z2 b_Z2
   refine X5 (seqI (ρ':=[some (.ob p (RL c k)),k0c kind]) ?_ (k0 (o:=.rg (.int (x-10)) p (RL G q)) ?_))
   .show mif _ _ _ [some (.ob p (RL c k)),k0c kind]=_
    rw[f7 (i p 0),f0];rfl
   .rw[f7 (i p 1),show (kind==1)=true by rw[h1];rfl]
    exact X9 (X1 (l6 e rfl) (Z1 (d:=.int 10) rfl) rfl) rfl
  .have f1:(kind==1)=false:=beq_eq_false_iff_ne.mpr h1
   by_cases h2:kind=2
   .obtain⟨x,G,q,_,_,e⟩:=j2 c k 1001 (by decide) (by decide)
    refine⟨x-500,G,q,fun p=>?_⟩
    unfold m_Z2 b_Z2
    refine X5 (seqI (ρ':=[some (.ob p (RL c k)),k0c kind]) ?_ (seqI (ρ':=[some (.ob p (RL c k)),k0c kind]) ?_ (k0 (o:=.rg (.int (x-500)) p (RL G q)) ?_)))
    .show mif _ _ _ [some (.ob p (RL c k)),k0c kind]=_
     rw[f7 (i p 0),f0];rfl
    .rw[f7 (i p 1),f1];rfl
    .rw[f7 (i p 2),show (kind==2)=true by rw[h2];rfl]
     exact X9 (X1 (l6 e rfl) (Z1 (d:=.int 500) rfl) rfl) rfl
   .have f2:(kind==2)=false:=beq_eq_false_iff_ne.mpr h2
    obtain⟨x,G,q,l1,Z,e⟩:=j2 c k 2 (by decide) (by decide)
    obtain⟨y,S,M,l2,Y,e2⟩:=j2 G q 1000 (by decide) (by decide)
    obtain⟨z,R,O⟩:∃ z,atI [D.int (-1),.int 1] x=some (.int z)/\(z= -1\/z=1):=by
     have:x=0\/x=1:=by omega
     rcases this with h|h <;> subst h
     .exact⟨_,rfl,by simp⟩
     .exact⟨_,rfl,by simp⟩
    have L:T0 z (100000000000000000000000000000+y)=true:=mulOk_l _ _ (by omega) (by omega)
    refine⟨z*(100000000000000000000000000000+y),S,M,fun p=>?_⟩
    unfold m_Z2 b_Z2
    refine X5 (seqI (ρ':=[some (.ob p (RL c k)),k0c kind]) ?_ (seqI (ρ':=[some (.ob p (RL c k)),k0c kind]) ?_ (seqI (ρ':=[some (.ob p (RL c k)),k0c kind]) ?_ ?_)))
    .show mif _ _ _ [some (.ob p (RL c k)),k0c kind]=_
     rw[f7 (i p 0),f0];rfl
    .rw[f7 (i p 1),f1];rfl
    .rw[f7 (i p 2),f2];rfl
    .have p29:(10:Int)^(29:Int).toNat=100000000000000000000000000000:=by decide
     have I:powOk 10 29=true:=by decide
     refine X9 (X1 (X1 (Z1 (n5 (o8 (z8 (d:=.int (-1)) rfl (z8 (d:=.int 1) rfl y7)) i2))) (l6 e rfl) (g:=.int z) R) (X1 (Z1 (d:=.int 100000000000000000000000000000) ?_) (l6 e2 rfl) (g:=.int (100000000000000000000000000000+y)) rfl) ?_) rfl
     .simp_arith [p29,I,if_true]
     .show (if T0 _ _=true then _ else none)=_
      rw[if_pos L]
end
section
open PySem L2
theorem mcompmB_ev {src:List (Option Nat)}{z:ML}{i j:Nat}{q:MEm}{ρ ρb:Ro}{rr:Addr}{r0 r1 its out:List D}(I:ρ[i]? =some (some (.ob rr r0)))(h1:z ρ=some its)(h2:Q8 q its ((d5 src ρ).set j (some (.own r0))) []=some (out,ρb))(G:ρb[j]? =some (some (.own r1))):O0 src z i j q ρ=some (.lst out,ρ.set i (some (.ob rr r1))):=by
 unfold O0
 rw[I];simp only;rw[h1];simp only;rw[h2];simp only;rw[G]
theorem D3 (kind:Int):∀(its:List Int)(c k:Int)(o:Option S)(acc:List Int),acc.length+its.length<=1000->∃(f:List Int)(q j:Int)(o':Option S),f.length=acc.length+its.length/\
  Q8 (t9 m_Z2 1 (apu (y0 (mvar 2) anil))) (its.map .int) [o,some (.own (RL c k)),k0c kind] (acc.map .int)=some (f.map .int,[o',some (.own (RL q j)),k0c kind])
 |[],c,k,o,acc,_=>⟨acc,c,k,o,by simp,rfl⟩
 |i::its,c,k,o,acc,h=>by
  obtain⟨x,G,z,e⟩:=G8 c k kind
  obtain⟨f,q,j,o',J,e2⟩:=D3 kind its G z (k0c i) (acc++[x]) (by simp at h ⊢;omega)
  refine⟨f,q,j,o',by rw[J];simp;omega,?_⟩
  rw[List.map_cons,Q8]
  have e3:t9 m_Z2 1 (apu (y0 (mvar 2) anil)) [k0c i,some (.own (RL c k)),k0c kind]=some (.int x,[k0c i,some (.own (RL G z)),k0c kind]):=
   U7 (r0:=RL c k) (r2:=RL c k) rfl (T3 (z8 (d:=.int kind) rfl y7)) rfl e rfl
  show (match t9 m_Z2 1 (apu (y0 (mvar 2) anil)) [k0c i,some (.own (RL c k)),k0c kind]with |some (x,ρ1)=>if (acc.map D.int).length<sizeLine then Q8 _ (its.map .int) ρ1 (acc.map D.int++[x])else none|none=>none)=_
  rw[e3]
  have I:(acc.map D.int).length<sizeLine:=by
   have:=g0
   rw[List.length_map];simp at h;omega
  simp only[I,if_true]
  rw[List.map_append]at e2
  exact e2
theorem intsD_int (f:List Int):Q4 (f.map .int)=some f:=Q3 f
noncomputable def envW (p:Addr)(c k most kind many:Int)(f:List Int)(o5:Option S):Ro:=[some (.ob p (RL c k)),k0c most,k0c kind,k0c many,k0a f,o5]
theorem P3 {p:Addr}{c k i kind many sh j:Int}{f g:List Int}{E:ME}(z:sh=j->E (envW p c k i kind many f (k0c sh))=some (.lst (g.map .int))):
  mif (v3 (m2 eqSD (mvar 5) (mc (.int j)))) (mset 4 E) j9 (envW p c k i kind many f (k0c sh))=some (.nx (envW p c k i kind many (if sh=j then g else f) (k0c sh))):=by
 have q:v3 (m2 eqSD (mvar 5) (mc (.int j))) (envW p c k i kind many f (k0c sh))=some (sh==j):=by unfold v3 m2;rfl
 rw[f7 q]
 by_cases h:sh=j
 .rw[show (sh==j)=true by rw[h];exact beq_self_eq_true _,if_pos h]
  exact(i8 (z h)).trans rfl
 .rw[beq_eq_false_iff_ne.mpr h,if_neg h];rfl
theorem some_row_eq (c k:Int)(j:Nat)(hm:j<60):∃(f:List Int)(c' k':Int),f.length<=j/\∀ p,m_Z14 p (RL c k) [.int (j:Int)]=some (.sh (.lst (f.map .int)),RL c' k'):=by
 have i2:0+1+1<=sizeLine:=v6 (by decide)
 have i3:0+1+1+1<=sizeLine:=v6 (by decide)
 obtain⟨kind,Z,S,_,_,e1⟩:=j2 c k 4 (by decide) (by decide)
 obtain⟨w,c2,k2,l2,u2,e2⟩:=j2 Z S 3 (by decide) (by decide)
 obtain⟨m,a0,a4⟩:=at3 (min 4 ((j:Int)+1)) (min 9 ((j:Int)+1)) ((j:Int)+1) w l2 u2
 obtain⟨many,O,M,l3,u3,e3⟩:=j2 c2 k2 m (by omega) (by omega)
 obtain⟨n,rfl⟩:=nat_of l3
 obtain⟨f,Y,R,o',hf,e4⟩:=D3 kind ((List.range n).map fun(i:Nat)=>(i:Int)) O M none [] (by simp;omega)
 obtain⟨sh,L,J,_,_,e5⟩:=j2 Y R 6 (by decide) (by decide)
 have N:f.length=n:=by simpa using hf
 let q:List Int:=if sh=0 then S4 f else f
 have l1:q.length=n:=by
  show (if sh=0 then S4 f else f).length=n
  split
  .rw[O6,N]
  .exact N
 let g2:List Int:=(List.range q.length).map fun(i:Nat)=>q.getD i 0+(if (i:Int) % 2=0 then 7 else -7)
 let I:List Int:=if sh=1 then g2 else q
 have a3:I.length=n:=by
  show (if sh=1 then g2 else q).length=n
  split
  .show (List.map _ (List.range q.length)).length=n
   rw[List.length_map,List.length_range,l1]
  .exact l1
 let g3:List Int:=(List.replicate n (I.take 1)).flatten
 let U:List Int:=if sh=2 then g3 else I
 have a2:U.length<=n:=by
  show (if sh=2 then g3 else I).length<=n
  split
  .show (List.replicate n (I.take 1)).flatten.length<=n
   rw[List.length_flatten,List.map_replicate,List.sum_replicate_nat,List.length_take]
   exact Nat.le_trans (Nat.mul_le_mul_left n (Nat.min_le_left 1 _)) (by omega)
  .omega
 refine⟨U,L,J,by omega,fun p=>?_⟩
 unfold m_Z14 b_Z14
 refine X5 ?_
 refine seqI (ρ':=[some (.ob p (RL Z S)),k0b j,k0c kind,none,none,none]) ((g9 (l6 (tl:=[k0b j,none,none,none,none]) e1 rfl)).trans rfl) ?_
 refine seqI (ρ':=[some (.ob p (RL O M)),k0b j,k0c kind,k0b n,none,none]) ?_ ?_
 .have q1:t5 (y0 (f9 S3 (y0 (mc (.int 4)) (y0 (m2 addD (mvar 1) (mc (.int 1))) anil))) (y0 (f9 S3 (y0 (mc (.int 9)) (y0 (m2 addD (mvar 1) (mc (.int 1))) anil))) (y0 (m2 addD (mvar 1) (mc (.int 1))) anil))) [some (.ob p (RL Z S)),k0b j,k0c kind,none,none,none]=some [.int (min 4 ((j:Int)+1)),.int (min 9 ((j:Int)+1)),.int ((j:Int)+1)]:=by
   simp_arith [min_if,i3,if_true]
  refine(g9 (ρ1:=[some (.ob p (RL O M)),k0b j,k0c kind,none,none,none]) (mcallG_ob (ρ1:=[some (.ob p (RL c2 k2)),k0b j,k0c kind,none,none,none]) (p:=p) (r2:=RL Z S) rfl (e7 (X1 (Z1 (n5 q1)) (l6 (tl:=[k0b j,k0c kind,none,none,none]) e2 rfl) (g:=.int m) a0) (T3 y7)) rfl (e3 p) rfl)).trans rfl
 have kn:okR (n:Int)=true:=V5 (by omega) (by omega)
 refine seqI (ρ':=envW p Y R j kind n f none) ?_ ?_
 .refine(g9 (mcompmB_ev (ρ:=[some (.ob p (RL O M)),k0b j,k0c kind,k0b n,none,none]) (rr:=p) (r0:=RL O M) (r1:=RL Y R) rfl (its:=((List.range n).map fun(i:Nat)=>(i:Int)).map .int) ?_ (out:=f.map .int) (ρb:=[o',some (.own (RL Y R)),k0c kind]) e4 rfl)).trans rfl
  unfold p8
  rw[z8 (d:=.int (n:Int)) rfl y7,Option.bind_some,rng1_ok kn,Int.toNat_natCast,R1]
 refine seqI (ρ':=envW p L J j kind n f (k0c sh)) ((g9 (l6 (tl:=[k0b j,k0c kind,k0b n,k0a f,none]) e5 rfl)).trans rfl) ?_
 refine seqI (P3 (g:=S4 f) fun _=>?_) ?_
 .refine n5 ?_
  unfold S1
  show (match Q4 (f.map D.int)with |some ns=>if ns.length<64 then some ((S4 ns).map D.int)else none|none=>none)=_
  rw[intsD_int]
  show (if f.length<64 then some ((S4 f).map D.int)else none)=_
  rw[if_pos (by omega)]
 show mseq _ _ (envW p L J j kind n q (k0c sh))=_
 refine seqI (P3 (g:=g2) fun _=>?_) ?_
 .refine n5 ?_
  unfold i6
  have ee:p8 E2 (y0 (mvar 4) anil) (envW p L J j kind n q (k0c sh))=some ((List.range q.length).map fun(i:Nat)=>D.tup [.int (i:Int),.int (q.getD i 0)]):=by
   unfold p8
   rw[z8 (x:=mvar 4) (d:=.lst (q.map .int)) rfl y7,Option.bind_some]
   show some (V9 0 (q.map .int))=_
   rw[J7]
   simp only[Nat.zero_add]
  rw[ee,Option.bind_some]
  refine(i9 (f:=fun(i:Nat)=>D.tup [.int (i:Int),.int (q.getD i 0)]) (G:=fun(i:Nat)=>D.int (q.getD i 0+(if (i:Int) % 2=0 then 7 else -7))) (fun _ ρ=>∃ x y,ρ=[x,y]) (by
   rintro i ds ρ ⟨x,y,rfl⟩
   refine⟨[k0b i,some (.sh (.int (q.getD i 0)))],rfl,rfl,?_,_,_,rfl⟩
   have ix:mix (t5 (y0 (mc (.int 7)) (y0 (m1 negD (mc (.int 7))) anil))) (m2 modD (mvar 0) (mc (.int 2))) [k0b i,some (.sh (.int (q.getD i 0)))]=some (.int (if (i:Int) % 2=0 then 7 else -7)):=by
    refine j0 (o8 (z8 (d:=.int 7) rfl (z8 (d:=.int (-7)) rfl y7)) i2) (k:=(i:Int) % 2) ?_ ?_
    .simp_arith [W1 (i:Int) 2 (by decide),if_true]
    .have:=mod_cases (x:=(i:Int)) (show (0:Int)<2 by decide)
     have:(i:Int) % 2=0\/(i:Int) % 2=1:=by omega
     rcases this with h|h
     .rw[h];rfl
     .rw[h];rfl
   rw[j1 (a:=.int (q.getD i 0)) rfl ix];rfl) (List.range q.length) _ [] ⟨none,none,rfl⟩ (v6 (by simp;omega))).trans ?_
  rw[List.nil_append]
  show some _=some (List.map D.int (List.map _ (List.range q.length)))
  rw[List.map_map]
  rfl
 show mseq _ _ (envW p L J j kind n I (k0c sh))=_
 refine seqI (P3 (g:=g3) fun _=>?_) ?_
 .refine n5 ?_
  have ec:mcut (bvar 4) R9 (V2 (mc (.int 1))) (envW p L J j kind n I (k0c sh))=some ((I.take 1).map .int):=by
   unfold mcut
   show some (cutL (I.map D.int) none (some 1))=_
   rw[Q7]
   exact congrArg (fun z=>some (List.map D.int z)) (cutI_to I 1)
  have a1:((I.take 1).map D.int).length<=1:=by rw[List.length_map,List.length_take];omega
  have a5:=g0
  rw[mrep_ev ec (k:=(n:Int)) rfl (by
   unfold repOk
   simp only[Bool.and_eq_true,decide_eq_true_eq]
   refine⟨⟨by omega,by omega⟩,?_⟩
   rw[Int.toNat_natCast]
   exact Nat.le_trans (Nat.mul_le_mul_right n a1) (by omega)),Int.toNat_natCast]
  show some _=some (List.map D.int (List.replicate n (I.take 1)).flatten)
  rw[List.map_flatten,List.map_replicate]
 show W0 0 (mpu (mvar 4)) (envW p L J j kind n U (k0c sh))=_
 exact X9 (Z1 (d:=.lst (U.map .int)) rfl) rfl
theorem some_step_eq (c k:Int):∃(s U L:Int),1<=s/\s<=100000000000000000000000000000/\∀ p,m_Z8 p (RL c k) []=some (.sh (.int s),RL U L):=by
 have M:0+1+1+1+1+1<=sizeLine:=v6 (by decide)
 obtain⟨x,S,J,l1,u1,e1⟩:=j2 c k 4 (by decide) (by decide)
 obtain⟨y,R,I,l2,Z,e2⟩:=j2 S J 40 (by decide) (by decide)
 obtain⟨z,O,G,l3,Y,e3⟩:=j2 R I 5 (by decide) (by decide)
 have j:(10:Int)^(29:Int).toNat=100000000000000000000000000000:=by decide
 have q:powOk 10 29=true:=by decide
 obtain⟨s,N,i⟩:∃ s,atI [D.int 1,.int 1,.int (1+x),.int (1+y),.int 100000000000000000000000000000] z=some (.int s)/\(1<=s/\s<=100000000000000000000000000000):=by
  have:z=0\/z=1\/z=2\/z=3\/z=4:=by omega
  rcases this with h|h|h|h|h <;> subst h <;> exact⟨_,rfl,by omega⟩
 refine⟨s,O,G,i.1,i.2,fun p=>?_⟩
 unfold m_Z8 b_Z8
 refine X5 (X9 (X1 (mlstm_ev (e7 (Z1 (d:=.int 1) rfl) (e7 (Z1 (d:=.int 1) rfl) (e7 (X1 (Z1 (d:=.int 1) rfl) (l6 (tl:=[]) e1 rfl) (g:=.int (1+x)) rfl) (e7 (X1 (Z1 (d:=.int 1) rfl) (l6 (tl:=[]) e2 rfl) (g:=.int (1+y)) rfl) (T3 (z8 (d:=.int 100000000000000000000000000000) ?_ y7)))))) M) (l6 (tl:=[]) e3 rfl) (g:=.int s) N) rfl)
 simp_arith [j,q,if_true]
end
section
open PySem L2
theorem U5 {x:ME}{ρ:Ro}{b:Bool}(h:x ρ=some (.bl b)):v3 x ρ=some b:=by unfold v3;rw[h]
theorem pots_comp:∀(xs:List Int)(o:Option S)(acc:List Int),acc.length+xs.length<=1000->compP (.nm 0) (t5 (y0 (mvar 0) (y0 (mc (.int 0)) anil))) (xs.map .int) [o] (acc.map fun c=>RL c 0)=some ((acc++xs).map fun c=>RL c 0)
 |[],o,acc,_=>by rw[List.append_nil];rfl
 |x::xs,o,acc,h=>by
  have i2:0+1+1<=sizeLine:=v6 (by decide)
  have j:=g0
  rw[List.map_cons,compP]
  show (match t5 (y0 (mvar 0) (y0 (mc (.int 0)) anil)) [k0c x]with |some ds=>if (acc.map fun c=>RL c 0).length<sizeLine then compP _ _ (xs.map .int) [k0c x] ((acc.map fun c=>RL c 0)++[ds])else none|none=>none)=_
  rw[o8 (z8 (d:=.int x) rfl (z8 (d:=.int 0) rfl y7)) i2]
  have i:(acc.map fun c=>RL c 0).length<sizeLine:=by rw[List.length_map];simp at h;omega
  simp only[i,if_true]
  have:=pots_comp xs (k0c x) (acc++[x]) (by simp at h ⊢;omega)
  rw[List.map_append,List.append_assoc]at this
  exact this
theorem pots_eq (xs:List Int)(h:xs.length<=63):∃ q:List Int,X0 [.lst (xs.map .int)]=some (q.map fun c=>RL c 0):=by
 unfold X0 runP
 have i2:0+1+1<=sizeLine:=v6 (by decide)
 have j:v3 (m2 eqSD (mlen (bvar 0)) (mc (.int 0))) (p9 1 [.lst (xs.map .int)])=some ((xs.length:Int)==0):=by
  rw[tI_ev (i:=(xs.length:Int)) (by rw[l7 (show bvar 0 _=some (xs.map .int)from rfl),List.length_map])]
 rw[j]
 cases hb:((xs.length:Int)==0)with
 |true=>
  refine⟨[0],?_⟩
  show mlst1 _ _=_
  unfold mlst1
  rw[o8 (z8 (d:=.int 0) rfl (z8 (d:=.int 0) rfl y7)) i2]
  rfl
 |false=>
  refine⟨cutI xs none (some 63),?_⟩
  show D5 _ _ _ _ _=_
  unfold D5
  have z:p6 (mlst (mcut (bvar 0) R9 (V2 (mc (.int 63))))) (p9 1 [.lst (xs.map .int)])=some ((cutI xs none (some 63)).map .int):=by
   refine o9 (n5 ?_)
   unfold mcut
   exact congrArg some (Q7 D.int xs none (some 63))
  rw[z,Option.bind_some]
  have:=cutI_len xs none (some 63)
  exact pots_comp (cutI xs none (some 63)) none [] (by simp;omega)
theorem forP_all {j:Nat}{body:MS}(I:Ro->Prop)(z:∀ c ρ,I ρ->∃ ρ',body (ρ.set j (some (.own (RL c 0))))=some (.nx ρ')/\I ρ'):∀(q:List Int)(ρ:Ro),I ρ->∃ ρ',forP j body (q.map fun c=>RL c 0) ρ=some (.nx ρ')/\I ρ'
 |[],ρ,h=>⟨ρ,rfl,h⟩
 |c::q,ρ,h=>by
  obtain⟨ρ1,e1,h1⟩:=z c ρ h
  obtain⟨i,e2,h2⟩:=forP_all I z q ρ1 h1
  refine⟨i,?_,h2⟩
  rw[List.map_cons,forP,e1]
  exact e2
end
section
open PySem L2
noncomputable def tb (x:Nat->Int)(a b c:Nat):Nat:=if 0<(x b-x a)*(x b-x c)then 1 else 0
theorem U0 (x:Nat->Int)(p q r:Nat)(l:List Nat):tnN x (p::q::r::l)=tb x p q r+tnN x (q::r::l):=rfl
theorem tnN_snoc (x:Nat->Int):∀(l:List Nat)(a b c:Nat),tnN x (l++[a,b,c])=tnN x (l++[a,b])+tb x a b c
 |[],a,b,c=>by show tb x a b c+0=0+_;omega
 |[p],a,b,c=>by
  show tb x p a b+(tb x a b c+0)=(tb x p a b+0)+_;omega
 |[p,q],a,b,c=>by
  show tb x p q a+(tb x q a b+(tb x a b c+0))=(tb x p q a+(tb x q a b+0))+_;omega
 |p::q::r::l,a,b,c=>by
  have:=tnN_snoc x (q::r::l) a b c
  show tb x p q r+tnN x (q::r::l++[a,b,c])=(tb x p q r+tnN x (q::r::l++[a,b]))+_
  rw[this];omega
theorem tnN_drop1 (x:Nat->Int)(l:List Nat)(c:Nat):tnN x l<=tnN x (l++[c]):=by
 rcases List.eq_nil_or_concat l with rfl|⟨m,b,rfl⟩
 .exact Nat.zero_le _
 .rw[List.concat_eq_append]
  rcases List.eq_nil_or_concat m with rfl|⟨k,a,rfl⟩
  .exact Nat.zero_le _
  .rw[List.concat_eq_append]
   have:=tnN_snoc x k a b c
   simp only[List.append_assoc,List.cons_append,List.nil_append]at this ⊢
   omega
theorem tnN_le (x:Nat->Int):∀ l:List Nat,tnN x l<=l.length-2
 |[]=>Nat.zero_le _
 |[_]=>Nat.zero_le _
 |[_,_]=>Nat.zero_le _
 |p::q::r::l=>by
  have:=tnN_le x (q::r::l)
  rw[U0]
  have h1:tb x p q r<=1:=by unfold tb;split <;> omega
  simp only[List.length_cons]at this ⊢
  omega
theorem tb_swap (x:Nat->Int)(a b c:Nat):tb x a b c=tb x c b a:=by unfold tb;rw[Int.mul_comm]
section
variable {x y:Nat->Int}{n:Nat}{s:Int}
theorem St.take:∀{l:List Nat}(k:Nat),St x n s l->(∀ p∈l,p<n)->St x n s (l.take k)
 |[],k,_,_=>by simp[St]
 |p::l,0,_,_=>True.intro
 |[p],k+1,h,_=>by simpa using h
 |p::q::l,1,h,hb=>hb p (by simp)
 |p::q::l,k+2,h,hb=>by
  have:=St.take (l:=q::l) (k+1) h.2.2 (fun r i=>hb r (List.mem_cons_of_mem _ i))
  exact⟨h.1,h.2.1,this⟩
theorem St.len:∀{l:List Nat},St x n s l->l.length<=n:=fun{l} z=>by
 have i:∀(l:List Nat)(p:Nat),St x n s (p::l)->l.length+p<n:=by
  intro l
  induction l with
  |nil=>intro p h;simpa using (show p<n from h)
  |cons q l j=>intro p h;have:=j q h.2.2;have:=h.1;simp;omega
 cases l with
 |nil=>simp
 |cons p l=>have:=i l p z;simp;omega
theorem St.other {s':Int}(h:∀ p q,p<n->q<n->(s<=((x q-x p).natAbs:Int)↔s'<=((y q-y p).natAbs:Int))):∀{l:List Nat},St x n s l->St y n s' l
 |[],_=>True.intro
 |[p],hl=>hl
 |p::q::l,hl=>by
  have i:=hl.bound
  exact⟨hl.1,(h p q (i p (by simp)) (i q (by simp))).mp hl.2.1,St.other h hl.2.2⟩
theorem V0 (h:∀ a b c,a<n->b<n->c<n->tb x a b c=tb y a b c):∀{l:List Nat},(∀ p∈l,p<n)->tnN x l=tnN y l
 |[],_=>rfl
 |[_],_=>rfl
 |[_,_],_=>rfl
 |p::q::r::l,hb=>by
  rw[U0,U0,h p q r (hb p (by simp)) (hb q (by simp)) (hb r (by simp)),V0 h (l:=q::r::l) (fun z i=>hb z (by simp at i ⊢;exact .inr i))]
theorem tn_other {s':Int}(j:1<=s)(i:1<=s')(h1:∀ p q,p<n->q<n->(s<=((x q-x p).natAbs:Int)↔s'<=((y q-y p).natAbs:Int)))(h2:∀ a b c,a<n->b<n->c<n->tb x a b c=tb y a b c)(t:Nat)(l:List Nat):Tn x n s t l↔Tn y n s' t l:=by
 rw[O3 j,O3 i]
 constructor
 .rintro⟨a,b⟩
  exact⟨a.other h1,by rw[<-V0 h2 a.bound];exact b⟩
 .rintro⟨a,b⟩
  exact⟨a.other fun p q hp z=>(h1 p q hp z).symm,by rw[V0 h2 a.bound];exact b⟩
noncomputable def mir (n:Nat)(l:List Nat):List Nat:=(l.map fun p=>n-1-p).reverse
theorem Q1 (p:Nat)(l:List Nat):mir n (p::l)=mir n l++[n-1-p]:=by unfold mir;simp
theorem mir_len (l:List Nat):(mir n l).length=l.length:=by unfold mir;simp
theorem mir_st (h:∀ p,p<n->y p=x (n-1-p)):∀{l:List Nat},St x n s l->St y n s (mir n l)
 |[],_=>True.intro
 |[p],hl=>by
  have:p<n:=hl
  show n-1-p<n
  omega
 |p::q::l,hl=>by
  have i:=hl.bound
  have hp:=i p (by simp)
  have z:=i q (by simp)
  have j:=mir_st h (l:=q::l) hl.2.2
  rw[Q1]
  refine St.snoc.mpr ⟨j,by omega,fun m r e=>?_⟩
  rw[Q1]at e
  have:=List.append_inj' e rfl
  have e2:n-1-q=r:=by simpa using this.2
  subst e2
  have h1:=hl.1
  refine⟨by omega,?_⟩
  rw[h _ (by omega),h _ (by omega),show n-1-(n-1-p)=p by omega,show n-1-(n-1-q)=q by omega]
  have:=hl.2.1
  omega
theorem mir_tn (h:∀ p,p<n->y p=x (n-1-p)):∀{l:List Nat},(∀ p∈l,p<n)->tnN y (mir n l)=tnN x l
 |[],_=>rfl
 |[_],_=>rfl
 |[_,_],_=>rfl
 |p::q::r::l,hb=>by
  have j:=mir_tn h (l:=q::r::l) (fun z i=>hb z (by simp at i ⊢;exact .inr i))
  rw[U0,<-j,Q1,Q1,Q1]
  have:=tnN_snoc y (mir n l) (n-1-r) (n-1-q) (n-1-p)
  simp only[List.append_assoc,List.cons_append,List.nil_append]at this ⊢
  rw[this,tb_swap]
  have hp:=hb p (by simp)
  have I:=hb q (by simp)
  have G:=hb r (by simp)
  have:tb y (n-1-p) (n-1-q) (n-1-r)=tb x p q r:=by
   unfold tb
   rw[h _ (by omega),h _ (by omega),h _ (by omega),show n-1-(n-1-p)=p by omega,show n-1-(n-1-q)=q by omega,show n-1-(n-1-r)=r by omega]
  rw[this];omega
theorem mir_Tn (j:1<=s)(h:∀ p,p<n->y p=x (n-1-p)){t:Nat}{l:List Nat}(i:Tn x n s t l):Tn y n s t (mir n l):=by
 rw[O3 j]at i ⊢
 exact⟨mir_st h i.1,by rw[mir_tn h i.1.bound];exact i.2⟩
theorem St.more:∀{l:List Nat},St x n s l->(∀ p,p<n->y p=x p)->St y (n+1) s l
 |[],_,_=>True.intro
 |[p],h,_=>Nat.lt_succ_of_lt h
 |p::q::l,h,hy=>by
  have i:=h.bound
  exact⟨h.1,by rw[hy p (i p (by simp)),hy q (i q (by simp))];exact h.2.1,St.more h.2.2 hy⟩
theorem St.fewer:∀{l:List Nat},St y (n+1) s l->(∀ p,p<n->y p=x p)->(∀ p∈l,p<n)->St x n s l
 |[],_,_,_=>True.intro
 |[p],_,_,hb=>hb p (by simp)
 |p::q::l,h,hy,hb=>⟨h.1,by rw[<-hy p (hb p (by simp)),<-hy q (hb q (by simp))];exact h.2.1,St.fewer h.2.2 hy fun r i=>hb r (List.mem_cons_of_mem _ i)⟩
theorem tn_more (j:1<=s)(i:∀ p,p<n->y p=x p){t:Nat}{l:List Nat}(h:Tn x n s t l):Tn y (n+1) s t l:=by
 rw[O3 j]at h ⊢
 exact⟨h.1.more i,by rw[<-V0 (n:=n) (x:=x) (fun a b c ha z q=>by unfold tb;rw[i a ha,i b z,i c q]) h.1.bound];exact h.2⟩
theorem tn_fewer (j:1<=s)(i:∀ p,p<n->y p=x p){t:Nat}{l:List Nat}(h:Tn y (n+1) s t l):∃ m,Tn x n s t m/\l.length<=m.length+1:=by
 rw[O3 j]at h
 obtain⟨h1,h2⟩:=h
 have low:∀ m:List Nat,St y (n+1) s m->(∀ p∈m,p<n)->tnN y m<=t->Tn x n s t m:=fun m a b c=>by
  rw[O3 j]
  exact⟨a.fewer i b,by rw[V0 (n:=n) (y:=y) (fun a b c ha J I=>by unfold tb;rw[i a ha,i b J,i c I]) b];exact c⟩
 rcases List.eq_nil_or_concat l with rfl|⟨m,p,rfl⟩
 .exact⟨[],.inl rfl,by simp⟩
 .rw[List.concat_eq_append]at h1 h2 ⊢
  obtain⟨a,b,c⟩:=St.snoc.mp h1
  have lt:=St.lt_last h1
  have z:tnN y m<=t:=Nat.le_trans (tnN_drop1 y m p) h2
  exact⟨m,low m a (fun q G=>by have:=lt q G;omega) z,by simp⟩
end
theorem Kt.iff {η:List Int}{s:Int}{t k:Nat}(h:∃ l,BTn η s t l):Kt η s t k↔(∃ l,Tn (xr η) η.length s t l/\l.length=k)/\∀ l,Tn (xr η) η.length s t l->l.length<=k:=by
 constructor
 .rintro⟨l,hl,rfl⟩
  exact⟨⟨l,hl.1,rfl⟩,fun m hm=>hl.len m hm⟩
 .rintro⟨⟨l,hl,rfl⟩,hm⟩
  obtain⟨b,i⟩:=h
  refine⟨b,i,?_⟩
  have h1:=hm b i.1
  have h2:=i.len l hl
  omega
theorem Kpt.same {η j:List Int}{s s':Int}{ks q:List Nat}(h:Kpt η s ks)(h':Kpt j s' q)(e:∀ t k,Kt η s t k↔Kt j s' t k):ks=q:=by
 have z:∀{η j:List Int}{s s':Int}{ks q:List Nat},Kpt η s ks->Kpt j s' q->(∀ t k,Kt η s t k↔Kt j s' t k)->¬ ks.length<q.length:=by
  intro η j s s' ks q h h' e G
  have hp:=h.pos
  have a:=(e _ _).mp (h.at' (ks.length-1) (by omega))
  have b:=h'.at' (ks.length-1) (by omega)
  have c:=a.uniq b
  have d:=h'.less (ks.length-1) (by omega)
  have f:=h.last _ _ ((e _ _).mpr (h'.at' (q.length-1) (by omega)))
  omega
 have I:ks.length=q.length:=by
  have:=z h h' e
  have:=z h' h (fun t k=>(e t k).symm)
  omega
 apply List.ext_getElem I
 intro i h1 h2
 have a:=(e _ _).mp (h.at' i h1)
 have:=a.uniq (h'.at' i h2)
 rw[List.getD_eq_getElem?_getD,List.getD_eq_getElem?_getD,List.getElem?_eq_getElem h1,List.getElem?_eq_getElem h2]at this
 exact this
theorem Kpt.rise {η:List Int}{s:Int}{ks:List Nat}(h:Kpt η s ks):ks.Pairwise (·<=·):=by
 rw[List.pairwise_iff_getElem]
 intro i j hi q z
 have:=(h.at' i hi).mono (h.at' j q) (by omega)
 rw[List.getD_eq_getElem?_getD,List.getD_eq_getElem?_getD,List.getElem?_eq_getElem hi,List.getElem?_eq_getElem q]at this
 exact this
theorem wd_tb {x:Nat->Int}{s:Int}(i:1<=s){d:Bool}{a b c:Nat}(h1:far s d (x a) (x b))(h2:far s (!d) (x b) (x c)):tb x a b c=1:=by
 unfold tb
 rw[if_pos]
 unfold far at h1 h2
 cases d
 .simp only[Bool.false_eq_true,if_false,Bool.not_false,if_true]at h1 h2
  exact Int.mul_pos_of_neg_of_neg (by omega) (by omega)
 .simp only[if_true,Bool.not_true,Bool.false_eq_true,if_false]at h1 h2
  exact Int.mul_pos (by omega) (by omega)
theorem wd_st {x:Nat->Int}{n:Nat}{s:Int}(i:1<=s):∀{l:List Nat}{d:Bool},Wd x n s d l->St x n s l/\tnN x l=l.length-2
 |[],_,h=>h.elim
 |[p],_,h=>⟨h,rfl⟩
 |[p,q],d,h=>by
  have:=(far_iff i d (x p) (x q)).mp h.2.1
  exact⟨⟨h.1,this.1,h.2.2⟩,rfl⟩
 |p::q::r::l,d,h=>by
  obtain⟨a,b⟩:=wd_st i (l:=q::r::l) h.2.2
  have:=(far_iff i d (x p) (x q)).mp h.2.1
  refine⟨⟨h.1,this.1,a⟩,?_⟩
  rw[U0,b,wd_tb i h.2.1 h.2.2.2.1]
  simp only[List.length_cons]
  omega
theorem wv_st {x:Nat->Int}{n:Nat}{s:Int}(i:1<=s){l:List Nat}(h:Wv x n s l):St x n s l/\tnN x l=l.length-2:=by
 rcases h with rfl|⟨d,h⟩
 .exact⟨True.intro,rfl⟩
 .exact wd_st i h
end
section
open PySem L2
theorem dn_ni (l:List Nat):l.map dN=(NI l).map .int:=by unfold NI;rw[List.map_map];rfl
theorem L_ni (l:List Nat):L l= .lst ((NI l).map .int):=by unfold L;rw[dn_ni]
theorem turn_tb (a b c:Int):turn (a,b,c)=decide (0<(b-a)*(b-c)):=by
 unfold turn
 rw[Bool.eq_iff_iff,Bool.or_eq_true,decide_eq_true_iff,decide_eq_true_iff,decide_eq_true_iff]
 show max a c<b\/b<min a c↔_
 constructor
 .rintro(h|h)
  .exact Int.mul_pos (by omega) (by omega)
  .exact Int.mul_pos_of_neg_of_neg (by omega) (by omega)
 .intro h
  rcases Int.lt_trichotomy (b-a) 0 with h1|h1|h1
  .rcases Int.lt_trichotomy (b-c) 0 with h2|h2|h2
   .exact .inr (by omega)
   .rw[h2,Int.mul_zero]at h;omega
   .have:=Int.mul_neg_of_neg_of_pos h1 h2;omega
  .rw[h1,Int.zero_mul]at h;omega
  .rcases Int.lt_trichotomy (b-c) 0 with h2|h2|h2
   .have:=Int.mul_neg_of_pos_of_neg h1 h2;omega
   .rw[h2,Int.mul_zero]at h;omega
   .exact .inl (by omega)
theorem trip_tn (x:Nat->Int):∀ l:List Nat,((trip (l.map x)).filter turn).length=tnN x l
 |[]=>rfl
 |[_]=>rfl
 |[_,_]=>rfl
 |p::q::r::l=>by
  have i:=trip_tn x (q::r::l)
  rw[U0,<-i]
  show (((x p,x q,x r)::trip ((q::r::l).map x)).filter turn).length=_
  rw[List.filter_cons,turn_tb]
  unfold tb
  by_cases h:0<(x q-x p)*(x q-x r)
  .rw[if_pos (decide_eq_true h),if_pos h,List.length_cons];omega
  .rw[if_neg (by rw[decide_eq_false h];decide),if_neg h];omega
theorem pok_st {x:Nat->Int}{n:Nat}{s:Int}:∀(l:List Nat)(lo:Int),St x n s l->(∀ p m,l=p::m->lo<=(p:Int))->pok n lo (NI l)=true
 |[],_,_,_=>rfl
 |[p],lo,h,hl=>by
  have i:=hl p [] rfl
  have h1:p<n:=h
  show (if (p:Int)<lo\/(n:Int)<=(p:Int)then false else true)=true
  rw[if_neg (by omega)]
 |p::q::l,lo,h,hl=>by
  have i:=hl p _ rfl
  have h1:p<n:=h.bound p (by simp)
  show (if (p:Int)<lo\/(n:Int)<=(p:Int)then false else pok n ((p:Int)+1) (NI (q::l)))=true
  rw[if_neg (by omega)]
  exact pok_st (q::l) _ h.2.2 fun z m e=>by
   have:=h.1
   cases e;omega
theorem many_eq (η:List Int)(l:List Nat)(s:Int)(I:η.length<=300)(h:St (xr η) η.length s l):m_Z5 [RI η,L l]=some (.sh (dN (tnN (xr η) l))):=by
 have i:=h.len
 have hp:m_Z17 [RI η,L l]=some (.sh (.bl true)):=by
  rw[L_ni,are_places_eq,pok_st l 0 h (fun p m e=>by omega)]
 unfold m_Z5 b_Z5
 refine h8 ?_
 refine seqI (ρ':=[some (.sh (RI η)),some (.sh (L l))]) (by
  rw[f7 (b:=false) (by unfold cnot mtru;rw[w9 (z8 (d:=RI η) rfl (z8 (d:=L l) rfl y7)) hp];rfl)]
  rfl) ?_
 have z:i6 [none,some 0] (p6 (mvar 1)) (.nm 0) cyes (mix (bvar 1) (mvar 0)) [some (.sh (RI η)),some (.sh (L l))]=some ((l.map (xr η)).map .int):=by
  unfold i6
  rw[o9 (m:=mvar 1) (ds:=l.map dN) rfl,Option.bind_some]
  refine(i9 (f:=dN) (G:=fun p=>D.int (xr η p)) (fun ps ρ=>∃ x,ρ=[x,some (.sh (RI η))]/\∀ p∈ps,p<η.length)
   (by
    rintro p ps ρ ⟨x,rfl,hh⟩
    refine⟨_,rfl,rfl,?_,_,rfl,fun q j=>hh q (by simp[j])⟩
    exact j0 (k:=(p:Int)) rfl rfl (C0 η p (hh p (by simp)))) l _ [] ⟨none,rfl,h.bound⟩ (v6 (by simp;omega))).trans ?_
  rw[List.nil_append,List.map_map]
  rfl
 refine S2 (w9 (z8 (n5 z) y7) ?_)
 rw[turns_of_eq,trip_tn]
 rfl
theorem ne_same (d:Nat){x y:ME}{ρ:Ro}(h1:x ρ=some (dN d))(h2:y ρ=some (dN d)):v3 (m2 neSD x y) ρ=some false:=by
 refine U5 ?_
 rw[j1 h1 h2]
 show some (D.bl (!((d:Int)==(d:Int))))=_
 rw[beq_self_eq_true];rfl
theorem sorted_kept {m:ML}{ρ:Ro}{ks:List Nat}(h:m ρ=some (ks.map dN))(j:ks.length<64)(hp:ks.Pairwise (·<=·)):S1 m ρ=some (ks.map dN):=by
 unfold S1
 rw[h,dn_ni]
 show (match Q4 ((NI ks).map D.int)with |some ns=>if ns.length<64 then some ((S4 ns).map D.int)else none|none=>none)=_
 rw[Q3]
 show (if (NI ks).length<64 then some ((S4 (NI ks)).map D.int)else none)=_
 rw[if_pos (by unfold NI;rw[List.length_map];exact j)]
 have i:(NI ks).Pairwise (·<=·):=by
  unfold NI
  rw[List.pairwise_map]
  exact hp.imp fun h=>by omega
 rw[T5 (U8 (NI ks)) (V6 (NI ks)) i]
theorem eq_kept (ks:List Nat):eqFD true (.lst (ks.map dN)) (.lst (ks.map dN))=some (.bl false):=by rw[dn_ni];exact eq_lst (NI ks)
theorem first_idx (m:Nat):∀(ks:List Nat)(i:Nat),ks.Pairwise (·<=·)->m∈ks->∃ j,Y3 m ks i=some (i+j)/\idxI (m:Int) (NI ks)=some j
 |[],_,_,h=>by cases h
 |k::ks,i,hp,h=>by
  rw[List.pairwise_cons]at hp
  show ∃ j,(if m<=k then some i else Y3 m ks (i+1))=some (i+j)/\(if (k:Int)=(m:Int)then some 0 else (idxI (m:Int) (NI ks)).map (·+1))=some j
  by_cases hm:m<=k
  .have:k=m:=by
    rcases List.mem_cons.mp h with e|e
    .exact e.symm
    .have:=hp.1 m e;omega
   exact⟨0,by rw[if_pos hm];rfl,by rw[if_pos (by omega)]⟩
  .have h2:m∈ks:=by
    rcases List.mem_cons.mp h with e|e
    .omega
    .exact e
   obtain⟨j,a,b⟩:=first_idx m ks (i+1) hp.2 h2
   exact⟨j+1,by rw[if_neg hm,a];congr 1;omega,by rw[if_neg (by omega),b];rfl⟩
theorem D8 (m:Nat):∀(ks:List Nat)(i:Nat),(∀ k∈ks,k<m)->Y3 m ks i=none
 |[],_,_=>rfl
 |k::ks,i,h=>by
  show (if m<=k then some i else Y3 m ks (i+1))=none
  rw[if_neg (by have:=h k (by simp);omega)]
  exact D8 m ks (i+1) fun q j=>h q (List.mem_cons_of_mem _ j)
theorem getD_inN {ks:List Nat}{k:Nat}(h:k∈ks):∃ i,i<ks.length/\ks.getD i 0=k:=by
 obtain⟨i,hi,e⟩:=List.getElem_of_mem h
 exact⟨i,hi,by rw[List.getD_eq_getElem?_getD,List.getElem?_eq_getElem hi];exact e⟩
theorem getD_memN {ks:List Nat}{i:Nat}(h:i<ks.length):ks.getD i 0∈ks:=by
 rw[List.getD_eq_getElem?_getD,List.getElem?_eq_getElem h];exact List.getElem_mem h
theorem Kpt.le_last {η:List Int}{s:Int}{ks:List Nat}(h:Kpt η s ks):∀ k∈ks,k<=ks.getD (ks.length-1) 0:=by
 intro k j
 obtain⟨i,hi,rfl⟩:=getD_inN j
 exact h.last _ _ (h.at' i hi)
theorem enum_kept:∀(ks:List Nat)(k:Nat),V9 k (ks.map dN)=(List.range ks.length).map fun i=>D.tup [dN (k+i),dN (ks.getD i 0)]
 |[],_=>rfl
 |a::ks,k=>by
  rw[List.map_cons,V9,enum_kept ks (k+1),List.length_cons,List.range_succ_eq_map,List.map_cons,List.map_map]
  congr 1
  apply List.map_congr_left
  intro i _
  show D.tup [dN (k+1+i),_]=D.tup [dN (k+(i+1)),_]
  rw[show k+1+i=k+(i+1)by omega]
  rfl
theorem zip_st {x:Nat->Int}{n:Nat}{s:Int}:∀{l:List Nat},St x n s l->∀ z∈l.zip (l.drop 1),z.1<n/\z.2<n/\z.1<z.2/\s<=((x z.2-x z.1).natAbs:Int)
 |[],_,z,i=>by simp at i
 |[p],_,z,i=>by simp at i
 |p::q::l,h,z,i=>by
  have j:=h.bound
  simp only[List.drop_succ_cons,List.drop_zero,List.zip_cons_cons,List.mem_cons]at i
  rcases i with rfl|i
  .exact⟨j p (by simp),j q (by simp),h.1,h.2.1⟩
  .exact zip_st (l:=q::l) h.2.2 z (by simpa using i)
theorem zip_dn (i bs:List Nat):List.zipWith (fun d e=>D.tup [d,e]) (i.map dN) (bs.map dN)=(i.zip bs).map fun z=>D.tup [dN z.1,dN z.2]:=by
 induction i generalizing bs with
 |nil=>rfl
 |cons a i j=>cases bs with
  |nil=>rfl
  |cons b bs=>show _::List.zipWith _ (i.map dN) (bs.map dN)=_;rw[j];rfl
noncomputable abbrev envQ (η:List Int)(s:Int)(ks:List Nat)(o3 o4 o5:Option S):Ro:=[some (.sh (RI η)),k0c s,some (.sh (L ks)),o3,o4,o5]
theorem told_comp {η:List Int}{s:Int}{ks l:List Nat}{I i:Option S}(R:η.length<=300)(h:St (xr η) η.length s l):
  i6 [none,none,some 1,some 0] (p8 zip2 (y0 (mvar 5) (y0 (mlst (mcut (bvar 5) (V2 (mc (.int 1))) R9)) anil))) (.tp [0,1]) (cor (v3 (m2 ltD (f9 absF (y0 (m2 subD (mix (bvar 3) (mvar 0)) (mix (bvar 3) (mvar 1))) anil)) (mvar 2))) (v3 (m2 leD (mvar 1) (mvar 0)))) (mc (.int 1)) (envQ η s ks I i (some (.sh (L l))))=some []:=by
 have M:=h.len
 unfold i6
 have e1:p8 zip2 (y0 (mvar 5) (y0 (mlst (mcut (bvar 5) (V2 (mc (.int 1))) R9)) anil)) (envQ η s ks I i (some (.sh (L l))))=some ((l.zip (l.drop 1)).map fun z=>D.tup [dN z.1,dN z.2]):=by
  have O:mlst (mcut (bvar 5) (V2 (mc (.int 1))) R9) (envQ η s ks I i (some (.sh (L l))))=some (L (l.drop 1)):=by
   refine(n5 (ds:=(l.drop 1).map dN) ?_)
   unfold mcut
   refine(congrArg some (Q7 dN l (some 1) none)).trans ?_
   rw[show (some (1:Int))=some ((1:Nat):Int)from rfl,J8]
  unfold p8
  rw[z8 (d:=L l) rfl (z8 O y7),Option.bind_some]
  show some (List.zipWith (fun d e=>D.tup [d,e]) (l.map dN) ((l.drop 1).map dN))=_
  rw[zip_dn]
 rw[e1,Option.bind_some]
 refine(Y1 (f:=fun z:Nat×Nat=>D.tup [dN z.1,dN z.2]) (p:=fun _=>false) (G:=fun _=>D.int 1) (fun zs ρ=>(∀ z∈zs,z.1<η.length/\z.2<η.length/\z.1<z.2/\s<=((xr η z.2-xr η z.1).natAbs:Int))/\∃ o o',ρ=[o,o',k0c s,some (.sh (RI η))]) (by
  rintro z zs ρ ⟨J,o,o',rfl⟩
  refine⟨[some (.sh (dN z.1)),some (.sh (dN z.2)),k0c s,some (.sh (RI η))],rfl,?_,fun z=>(by cases z),fun q N=>J q (by simp[N]),_,_,rfl⟩
  obtain⟨h1,h2,Y,U⟩:=J z (by simp)
  have i1:mix (bvar 3) (mvar 0) [some (.sh (dN z.1)),some (.sh (dN z.2)),k0c s,some (.sh (RI η))]=some (.int (xr η z.1)):=j0 (k:=(z.1:Int)) rfl rfl (C0 η z.1 h1)
  have i2:mix (bvar 3) (mvar 1) [some (.sh (dN z.1)),some (.sh (dN z.2)),k0c s,some (.sh (RI η))]=some (.int (xr η z.2)):=j0 (k:=(z.2:Int)) rfl rfl (C0 η z.2 h2)
  have i3:f9 absF (y0 (m2 subD (mix (bvar 3) (mvar 0)) (mix (bvar 3) (mvar 1))) anil) [some (.sh (dN z.1)),some (.sh (dN z.2)),k0c s,some (.sh (RI η))]=some (.int ((xr η z.1-xr η z.2).natAbs:Int)):=by
   unfold f9
   rw[z8 ((j1 i1 i2).trans (show _=some (D.int (xr η z.1-xr η z.2))from rfl)) y7,Option.bind_some]
   show some (D.int (if xr η z.1-xr η z.2<0 then -(xr η z.1-xr η z.2)else xr η z.1-xr η z.2))=_
   rw[abs_if]
  refine cor_ev (a:=false) (b:=false) ?_ ?_
  .rw[tlt_ev i3 (j:=s) rfl,decide_eq_false (by omega)]
  .refine U5 ?_
   rw[j1 (a:=dN z.2) (b:=dN z.1) rfl rfl]
   show some (D.bl (decide ((z.2:Int)<=(z.1:Int))))=_
   rw[decide_eq_false (by omega)]) (l.zip (l.drop 1)) _ [] ⟨zip_st h,none,none,rfl⟩ (v6 (by simp;omega))).trans ?_
 rw[filter_none];rfl
theorem kept_right_eq (η:List Int)(s:Int)(z:1<=s)(hr:η.length<=60):m_Z4 [RI η,.int s]=some (.sh (.bl true)):=by
 obtain⟨ks,ek,q⟩:=j6 η s z (by omega)
 have hp:=q.pos
 have hf:=q.few
 unfold m_Z4 b_Z4
 refine U2 ?_
 refine u0 (ρ':=envQ η s ks none none none) ((i8 (Q2 (z8 (d:=RI η) rfl (z8 (d:=.int s) rfl y7)) ek)).trans rfl) ?_
 refine j4 (L0 (b:=false) ?_ (U1 ?_))
 .refine cor_ev (a:=false) (b:=false) (U5 ?_) ?_
  .unfold meqB
   rw[show bvar 2 (envQ η s ks none none none)=some (ks.map dN)from rfl,sorted_kept (m:=bvar 2) (ks:=ks) rfl (by omega) q.rise]
   exact eq_kept ks
  .obtain⟨l,S,J⟩:=v4 η s η.length z (by omega)
   have e1:mlen (p6 (r6 m_Z1 (y0 (mvar 0) (y0 (mvar 1) (y0 (mlen (bvar 0)) anil))))) (envQ η s ks none none none)=some (dN (ks.getD (ks.length-1) 0)):=by
    refine(l7 (ds:=l.map dN) (o9 (w9 (ds:=[RI η,.int s,.int (η.length:Int)]) (z8 (d:=RI η) rfl (z8 (d:=.int s) rfl (z8 (d:=.int (η.length:Int)) ((l7 (m:=bvar 0) (ds:=η.map .int) rfl).trans (by rw[List.length_map])) y7))) S))).trans ?_
    have h1:=q.last _ _ ⟨l,J,rfl⟩
    have h2:=(q.at' (ks.length-1) (by omega)).mono ⟨l,J,rfl⟩ (by omega)
    rw[List.length_map,show l.length=ks.getD (ks.length-1) 0 by omega]
    rfl
   exact ne_same _ e1 (j0 (k:=-1) rfl rfl (at_last ks hp))
 show Run _ _ _
 refine j4 (Z6 ks.length (f:=fun i=>D.tup [dN i,dN (ks.getD i 0)]) ?_ (I:=fun _ ρ=>∃ N M G,ρ=envQ η s ks N M G) _ ⟨_,_,_,rfl⟩ ?_ ?_)
 .unfold p8
  rw[z8 (d:=L ks) rfl y7,Option.bind_some]
  show some (V9 0 (ks.map dN))=_
  rw[enum_kept]
  congr 1
  apply List.map_congr_left
  intro i _
  rw[Nat.zero_add]
 .rintro i ρ hi ⟨N,M,G,rfl⟩
  refine⟨envQ η s ks (some (.sh (dN i))) (some (.sh (dN (ks.getD i 0)))) G,rfl,?_⟩
  unfold b_Z4_f0
  obtain⟨l,S,J⟩:=v4 η s i z (by omega)
  have O:l.length=ks.getD i 0:=Kt.uniq ⟨l,J,rfl⟩ (q.at' i hi)
  obtain⟨U,hT⟩:=(O3 z i l).mp J.1
  refine u0 (ρ':=envQ η s ks (some (.sh (dN i))) (some (.sh (dN (ks.getD i 0)))) (some (.sh (L l)))) ((i8 (w9 (z8 (d:=RI η) rfl (z8 (d:=.int s) rfl (z8 (d:=dN i) rfl y7))) S)).trans rfl) ?_
  refine j4 (L0 (b:=false) ?_ (U1 ?_))
  .refine cor_ev (a:=false) (b:=false) (ne_same (ks.getD i 0) ?_ rfl) (U5 ?_)
   .refine(l7 (m:=bvar 5) (ds:=l.map dN) rfl).trans ?_
    rw[List.length_map,O];rfl
   .rw[j1 (w9 (z8 (d:=RI η) rfl (z8 (d:=L l) rfl y7)) (many_eq η l s (by omega) U)) (b:=dN i) rfl]
    show some (D.bl (decide ((tnN (xr η) l:Int)>(i:Int))))=_
    rw[decide_eq_false (by omega)]
  show Run _ _ _
  refine j4 (L0 (b:=false) (eqB_nil (told_comp (by omega) U)) (U1 ?_))
  show Run _ _ _
  have hm:ks.getD i 0∈ks:=getD_memN hi
  obtain⟨j,Z,Y⟩:=first_idx (ks.getD i 0) ks 0 q.rise hm
  refine L0 (b:=false) ?_ (U1 ⟨_,_,_,rfl⟩)
  have a1:r6 m_Z13 (y0 (mvar 0) (y0 (mvar 1) (y0 (mvar 4) anil))) (envQ η s ks (some (.sh (dN i))) (some (.sh (dN (ks.getD i 0)))) (some (.sh (L l))))=some (dN j):=by
   refine(w9 (z8 (d:=RI η) rfl (z8 (d:=.int s) rfl (z8 (d:=dN (ks.getD i 0)) rfl y7))) (Z4 η s (ks.getD i 0) z (by omega) ek)).trans ?_
   rw[Z,Nat.zero_add];rfl
  have a2:midxI (bvar 2) (mvar 4) (envQ η s ks (some (.sh (dN i))) (some (.sh (dN (ks.getD i 0)))) (some (.sh (L l))))=some (dN j):=by
   unfold midxI
   show (match Q4 (ks.map dN)with |some ns=>if ns.length<=1000 then (idxI ((ks.getD i 0:Nat):Int) ns).map fun j=>D.int (j:Int)else none|none=>none)=_
   rw[dn_ni,Q3]
   show (if (NI ks).length<=1000 then (idxI ((ks.getD i 0:Nat):Int) (NI ks)).map fun j=>D.int (j:Int)else none)=_
   rw[if_pos (by unfold NI;rw[List.length_map];omega),Y]
   rfl
  have a3:v3 (m2 gtD (mvar 4) (mc (.int 0))) (envQ η s ks (some (.sh (dN i))) (some (.sh (dN (ks.getD i 0)))) (some (.sh (L l))))=some (decide ((ks.getD i 0:Int)>0)):=by
   refine U5 ?_
   rw[j1 (a:=dN (ks.getD i 0)) (b:=.int 0) rfl rfl]
   rfl
  rw[cand_ev a3 (ne_same j a1 a2),Bool.and_false]
 .rintro ρ ⟨N,M,G,rfl⟩
  refine⟨_,S2 (mand_bl (a:=true) (b:=true) ?_ ?_),rfl⟩
  .have b1:m2 addD (mix (bvar 2) (m1 negD (mc (.int 1)))) (mc (.int 1)) (envQ η s ks N M G)=some (.int ((ks.getD (ks.length-1) 0+1:Nat):Int)):=by
    rw[j1 (j0 (k:=-1) rfl rfl (at_last ks hp)) (b:=.int 1) rfl]
    show some (D.int (((ks.getD (ks.length-1) 0:Nat):Int)+1))=_
    rw[show ((ks.getD (ks.length-1) 0+1:Nat):Int)=((ks.getD (ks.length-1) 0:Nat):Int)+1 by omega]
   rw[j1 (w9 (z8 (d:=RI η) rfl (z8 (d:=.int s) rfl (z8 b1 y7))) (Z4 η s _ z (by omega) ek)) (b:=.non) rfl]
   rw[D8 _ ks 0 (fun k R=>by have:=q.le_last k R;omega)]
   rfl
  .rw[j1 (w9 (z8 (d:=RI η) rfl (z8 (d:=.int s) rfl (z8 (d:=.int ((0:Nat):Int)) rfl y7))) (Z4 η s 0 z (by omega) ek)) (b:=.int 0) rfl]
   cases ks with
   |nil=>simp at hp
   |cons k ks=>rfl
end
section
open PySem L2
theorem padded {η:List Int}{s:Int}{ks:List Nat}(h:Kpt η s ks)(t k:Nat)(j:Kt η s t k):k<=(ks++List.replicate t (ks.getD (ks.length-1) 0)).getD t 0:=by
 by_cases i:t<ks.length
 .rw[List.getD_eq_getElem?_getD,List.getElem?_append_left i,<-List.getD_eq_getElem?_getD,(h.at' t i).uniq j]
  exact Nat.le_refl _
 .have hp:=h.pos
  rw[List.getD_eq_getElem?_getD,List.getElem?_append_right (by omega),List.getElem?_replicate,if_pos (by omega)]
  exact h.last t k j
theorem G6 (η:List Int)(s:Int)(q:1<=s)(hr:η.length<=60):m_Z3 [RI η,.int s]=some (.sh (.bl true)):=by
 obtain⟨ks,ek,M⟩:=j6 η s q (by omega)
 obtain⟨l,R,U⟩:=longest_eq η s q (by omega)
 have hp:=M.pos
 have hf:=M.few
 obtain⟨J,Z⟩:=wv_st q U.1
 have O:=J.len
 unfold m_Z3 b_Z3
 refine U2 ?_
 refine u0 (ρ':=[some (.sh (RI η)),k0c s,some (.sh (dN l.length)),none,none,none]) ((i8 (w9 (z8 (d:=RI η) rfl (z8 (d:=.int s) rfl y7)) (how_long_eq η s l R))).trans rfl) ?_
 refine u0 (ρ':=[some (.sh (RI η)),k0c s,some (.sh (dN l.length)),some (.sh (L ks)),none,none]) ((i8 (Q2 (z8 (d:=RI η) rfl (z8 (d:=.int s) rfl y7)) ek)).trans rfl) ?_
 have e4:f9 max2F (y0 (mc (.int 0)) (y0 (m2 subD (mvar 2) (mc (.int 2))) anil)) [some (.sh (RI η)),k0c s,some (.sh (dN l.length)),some (.sh (L ks)),none,none]=some (dN (l.length-2)):=by
  unfold f9
  rw[z8 (d:=.int 0) rfl (z8 (d:=.int ((l.length:Int)-2)) ((j1 (a:=dN l.length) (b:=.int 2) rfl rfl).trans rfl) y7),Option.bind_some]
  show some (D.int (if (l.length:Int)-2>0 then (l.length:Int)-2 else 0))=some (.int ((l.length-2:Nat):Int))
  rw[show (if (l.length:Int)-2>0 then (l.length:Int)-2 else 0)=((l.length-2:Nat):Int)by split <;> omega]
 refine u0 (ρ':=[some (.sh (RI η)),k0c s,some (.sh (dN l.length)),some (.sh (L ks)),some (.sh (dN (l.length-2))),none]) ((i8 e4).trans rfl) ?_
 have G:∀ m:List Nat,St (xr η) η.length s m->∀ t,tnN (xr η) m<=t->Tn (xr η) η.length s t m:=fun m a t b=>(O3 q t m).mpr ⟨a,b⟩
 refine j4 (L0 (b:=false) ?_ (U1 ?_))
 .refine cor_ev (a:=false) (b:=false) ?_ ?_
  .have c1:mcat (bvar 3) (mrep (t5 (y0 (mix (bvar 3) (m1 negD (mc (.int 1)))) anil)) (mvar 4)) [some (.sh (RI η)),k0c s,some (.sh (dN l.length)),some (.sh (L ks)),some (.sh (dN (l.length-2))),none]=some ((ks++List.replicate (l.length-2) (ks.getD (ks.length-1) 0)).map dN):=by
    have d1:t5 (y0 (mix (bvar 3) (m1 negD (mc (.int 1)))) anil) [some (.sh (RI η)),k0c s,some (.sh (dN l.length)),some (.sh (L ks)),some (.sh (dN (l.length-2))),none]=some [dN (ks.getD (ks.length-1) 0)]:=
     o8 (z8 (j0 (m:=bvar 3) (ds:=ks.map dN) (k:=-1) rfl rfl (at_last ks hp)) y7) (v6 (by simp))
    have d2:mrep (t5 (y0 (mix (bvar 3) (m1 negD (mc (.int 1)))) anil)) (mvar 4) [some (.sh (RI η)),k0c s,some (.sh (dN l.length)),some (.sh (L ks)),some (.sh (dN (l.length-2))),none]=some ((List.replicate (l.length-2) (ks.getD (ks.length-1) 0)).map dN):=by
     unfold mrep
     rw[d1,Option.bind_some]
     show (if repOk 1 ((l.length-2:Nat):Int)=true then some (List.replicate ((l.length-2:Nat):Int).toNat [dN (ks.getD (ks.length-1) 0)]).flatten else none)=_
     have a0:=g0
     rw[if_pos (by unfold repOk;rw[Int.toNat_natCast,decide_eq_true (by omega),decide_eq_true (by omega),decide_eq_true (by omega)];rfl),Int.toNat_natCast,List.flatten_replicate_singleton,List.map_replicate]
    rw[mcat_ev (x:=bvar 3) (ds:=ks.map dN) rfl d2 (v6 (by simp;omega)),<-List.map_append]
   have c2:mix (mcat (bvar 3) (mrep (t5 (y0 (mix (bvar 3) (m1 negD (mc (.int 1)))) anil)) (mvar 4))) (mvar 4) [some (.sh (RI η)),k0c s,some (.sh (dN l.length)),some (.sh (L ks)),some (.sh (dN (l.length-2))),none]=some (dN ((ks++List.replicate (l.length-2) (ks.getD (ks.length-1) 0)).getD (l.length-2) 0)):=
    j0 (k:=((l.length-2:Nat):Int)) c1 rfl (at_dn _ _ (by rw[List.length_append,List.length_replicate];omega))
   obtain⟨m,em,hm⟩:=v4 η s (l.length-2) q (by omega)
   have h1:=hm.len l (G l J _ (by omega))
   have h2:=padded M (l.length-2) m.length ⟨m,hm,rfl⟩
   rw[tlt_ev c2 (j:=(l.length:Int)) rfl,decide_eq_false (by omega)]
  .refine ne_same (l.length-2) ?_ rfl
   refine(w9 (z8 (d:=RI η) rfl (z8 (d:=L l) (w9 (z8 (d:=RI η) rfl (z8 (d:=.int s) rfl y7)) R) y7)) (many_eq η l s (by omega) J)).trans ?_
   rw[Z]
 show Run _ _ _
 refine j4 (Z6 (min ks.length (l.length-2)) (f:=dN) ?_ (I:=fun _ ρ=>∃ o,ρ=[some (.sh (RI η)),k0c s,some (.sh (dN l.length)),some (.sh (L ks)),some (.sh (dN (l.length-2))),o]) _ ⟨_,rfl⟩ ?_ ?_)
 .have e1:f9 S3 (y0 (mlen (bvar 3)) (y0 (mvar 4) anil)) [some (.sh (RI η)),k0c s,some (.sh (dN l.length)),some (.sh (L ks)),some (.sh (dN (l.length-2))),none]=some (.int ((min ks.length (l.length-2):Nat):Int)):=by
   unfold f9
   rw[z8 ((l7 (m:=bvar 3) (ds:=ks.map dN) rfl).trans (by rw[List.length_map])) (z8 (d:=dN (l.length-2)) rfl y7),Option.bind_some]
   show some (D.int (if ((l.length-2:Nat):Int)<(ks.length:Int)then ((l.length-2:Nat):Int)else (ks.length:Int)))=_
   rw[show (if ((l.length-2:Nat):Int)<(ks.length:Int)then ((l.length-2:Nat):Int)else (ks.length:Int))=((min ks.length (l.length-2):Nat):Int)by split <;> omega]
  unfold p8
  rw[z8 e1 y7,Option.bind_some,rng1_ok (V5 (by omega) (by omega)),Int.toNat_natCast,R1,List.map_map]
  rfl
 .rintro i ρ hi ⟨o,rfl⟩
  refine⟨[some (.sh (RI η)),k0c s,some (.sh (dN l.length)),some (.sh (L ks)),some (.sh (dN (l.length-2))),some (.sh (dN i))],rfl,?_⟩
  unfold b_Z3_f0
  refine L0 (b:=false) ?_ (U1 ⟨_,rfl⟩)
  have z:i<ks.length:=by omega
  have N:=J.take (i+2) J.bound
  have S:(l.take (i+2)).length=i+2:=by rw[List.length_take];omega
  have Y:=tnN_le (xr η) (l.take (i+2))
  obtain⟨m,hm,e⟩:=M.at' i z
  have h3:=hm.len _ (G _ N i (by omega))
  have e2:m2 addD (mvar 5) (mc (.int 2)) [some (.sh (RI η)),k0c s,some (.sh (dN l.length)),some (.sh (L ks)),some (.sh (dN (l.length-2))),some (.sh (dN i))]=some (.int ((i:Int)+2)):=(j1 (a:=dN i) (b:=.int 2) rfl rfl).trans rfl
  rw[tlt_ev (i:=((ks.getD i 0:Nat):Int)) (j0 (m:=bvar 3) (ds:=ks.map dN) (k:=(i:Int)) rfl rfl (at_dn ks i z)) e2,decide_eq_false (by omega)]
 .rintro ρ ⟨o,rfl⟩
  exact⟨_,rfl,rfl⟩
end
section
open PySem L2
theorem xr_map (f:Int->Int)(η:List Int)(p:Nat)(h:p<η.length):xr (η.map f) p=f (xr η p):=by
 unfold xr
 rw[List.getD_eq_getElem?_getD,List.getD_eq_getElem?_getD,List.getElem?_map,List.getElem?_eq_getElem h]
 rfl
theorem bt_map {η:List Int}{s s' a b:Int}{t:Nat}{l m:List Nat}(I:1<=s)(ha:a≠0)(M:s'=(a.natAbs:Int)*s)(f:Int->Int)(J:∀ v,f v=a*v+b)(h1:BTn η s t l)(h2:BTn (η.map f) s' t m):m=l:=by
 have G:1<=s':=by
  have h1:(1:Int)<=(a.natAbs:Int):=by omega
  have:(1:Int)*1<=(a.natAbs:Int)*s:=Int.mul_le_mul h1 I (by omega) (by omega)
  omega
 have ex:∀ p q,p<η.length->q<η.length->xr (η.map f) q-xr (η.map f) p=a*(xr η q-xr η p):=fun p q hp i=>by
  rw[xr_map f η q i,xr_map f η p hp,J,J,Int.mul_sub];omega
 refine Best.unique (h2.iff fun z=>?_) h1
 rw[List.length_map]
 refine(tn_other I G (fun p q hp i=>?_) (fun p q r hp i L=>?_) t z).symm
 .rw[ex p q hp i,Int.natAbs_mul,M,Int.natCast_mul]
  constructor
  .intro h;exact Int.mul_le_mul_of_nonneg_left h (by omega)
  .intro h;exact Int.le_of_mul_le_mul_left h (by omega)
 .unfold tb
  have e:(xr (η.map f) q-xr (η.map f) p)*(xr (η.map f) q-xr (η.map f) r)=(a*a)*((xr η q-xr η p)*(xr η q-xr η r)):=by
   rw[ex p q hp i,ex r q L i,Int.mul_assoc,Int.mul_assoc,Int.mul_left_comm (xr η q-xr η p)]
  have j:0<a*a:=by
   rcases Int.lt_trichotomy a 0 with h|h|h
   .exact Int.mul_pos_of_neg_of_neg h h
   .exact absurd h ha
   .exact Int.mul_pos h h
  rw[e]
  by_cases h:0<(xr η q-xr η p)*(xr η q-xr η r)
  .rw[if_pos h,if_pos (Int.mul_pos j h)]
  .rw[if_neg h,if_neg (fun z=>h (by
    rcases Int.lt_trichotomy ((xr η q-xr η p)*(xr η q-xr η r)) 0 with y|y|y
    .have:=Int.mul_neg_of_pos_of_neg j y;omega
    .rw[y,Int.mul_zero]at z;omega
    .exact y))]
theorem xr_rev (η:List Int)(p:Nat)(h:p<η.length):xr η.reverse p=xr η (η.length-1-p):=by
 unfold xr
 rw[List.getD_eq_getElem?_getD,List.getD_eq_getElem?_getD,List.getElem?_reverse h]
theorem kept_rev {η:List Int}{s:Int}{ks j:List Nat}(i:1<=s)(I:η.length<=300)(h1:Kpt η s ks)(h2:Kpt η.reverse s j):j=ks:=by
 have hn:η.reverse.length=η.length:=List.length_reverse
 have G:∀ t z,Tn (xr η.reverse) η.length s t z->∃ m,Tn (xr η) η.length s t m/\m.length=z.length:=fun t z h=>
  ⟨_,mir_Tn i (fun p hp=>by rw[xr_rev η _ (by omega),show η.length-1-(η.length-1-p)=p by omega]) h,mir_len z⟩
 have q:∀ t z,Tn (xr η) η.length s t z->∃ m,Tn (xr η.reverse) η.length s t m/\m.length=z.length:=fun t z h=>
  ⟨_,mir_Tn i (fun p hp=>xr_rev η p hp) h,mir_len z⟩
 refine Kpt.same h2 h1 fun t k=>?_
 obtain⟨l,_,J⟩:=v4 η s t i I
 obtain⟨m,_,hm⟩:=v4 η.reverse s t i (by omega)
 rw[Kt.iff ⟨l,J⟩,Kt.iff ⟨m,hm⟩,hn]
 constructor
 .rintro⟨⟨z,a,b⟩,c⟩
  obtain⟨y,d,e⟩:=G t z a
  exact⟨⟨y,d,by omega⟩,fun w hw=>by obtain⟨v,f,g⟩:=q t w hw;have:=c v f;omega⟩
 .rintro⟨⟨z,a,b⟩,c⟩
  obtain⟨y,d,e⟩:=q t z a
  exact⟨⟨y,d,by omega⟩,fun w hw=>by obtain⟨v,f,g⟩:=G t w hw;have:=c v f;omega⟩
theorem xr_app (η:List Int)(v:Int)(p:Nat)(h:p<η.length):xr (η++[v]) p=xr η p:=by
 unfold xr
 rw[List.getD_eq_getElem?_getD,List.getD_eq_getElem?_getD,List.getElem?_append_left h]
theorem one_more {η:List Int}{s v:Int}{t:Nat}{l m:List Nat}(i:1<=s)(h1:BTn η s t l)(h2:BTn (η++[v]) s t m):l.length<=m.length/\m.length<=l.length+1:=by
 have hn:(η++[v]).length=η.length+1:=by simp
 have j:Best (Tn (xr (η++[v])) (η.length+1) s t) m:=hn ▸ h2
 refine⟨j.len l (tn_more i (fun p hp=>xr_app η v p hp) h1.1),?_⟩
 obtain⟨z,a,b⟩:=tn_fewer i (fun p hp=>xr_app η v p hp) j.1
 have:=h1.len z a
 omega
noncomputable abbrev envO (p:Addr)(c k:Int)(η:List Int)(s:Int)(o3 o4 o5 o6 o7:Option S):Ro:=[some (.ob p (RL c k)),some (.sh (RI η)),k0c s,o3,o4,o5,o6,o7]
theorem same_L {x y:ML}{ρ:Ro}{l:List Nat}(h1:x ρ=some (l.map dN))(h2:y ρ=some (l.map dN)):v3 (meqB true x y) ρ=some false:=by
 refine U5 ?_
 unfold meqB
 rw[h1,h2]
 exact eq_kept l
theorem otherwise_eq (c k:Int)(η:List Int)(s:Int)(z:1<=s)(hr:η.length<=60):∃ c' k',∀ p,m_Z0 p (RL c k) [RI η,.int s]=some (.sh (.bl true),RL c' k'):=by
 obtain⟨x1,Z,S,l1,u1,e1⟩:=j2 c k 6 (by decide) (by decide)
 obtain⟨t,rfl⟩:=nat_of l1
 obtain⟨j,c2,k2,l2,u2,e2⟩:=j2 Z S 1001 (by decide) (by decide)
 obtain⟨i,I,q,l3,u3,e3⟩:=j2 c2 k2 5 (by decide) (by decide)
 obtain⟨J,R,N,l4,u4,e4⟩:=j2 I q 41 (by decide) (by decide)
 refine⟨R,N,fun p=>?_⟩
 unfold m_Z0 b_Z0
 refine X5 ?_
 refine seqI (ρ':=envO p Z S η s (some (.sh (dN t))) none none none none) ((g9 (l6 e1 rfl)).trans rfl) ?_
 obtain⟨l,el,O⟩:=v4 η s t z (by omega)
 have a1:l.length<=η.length:=O.1.len
 refine seqI (ρ':=envO p Z S η s (some (.sh (dN t))) (some (.sh (L l))) none none none) ((i8 (w9 (z8 (d:=RI η) rfl (z8 (d:=.int s) rfl (z8 (d:=dN t) rfl y7))) el)).trans rfl) ?_
 refine seqI (ρ':=envO p c2 k2 η s (some (.sh (dN t))) (some (.sh (L l))) (some (.sh (.int (j-500)))) none none) ((g9 (X1 (l6 e2 rfl) (Z1 (d:=.int 500) rfl) (g:=.int (j-500)) rfl)).trans rfl) ?_
 refine seqI (ρ':=envO p I q η s (some (.sh (dN t))) (some (.sh (L l))) (some (.sh (.int (j-500)))) (some (.sh (.int (2+i)))) none) ((g9 (X1 (Z1 (d:=.int 2) rfl) (l6 e3 rfl) (g:=.int (2+i)) rfl)).trans rfl) ?_
 obtain⟨la,ea,ha⟩:=v4 (η.map fun v=>0-v) s t z (by rw[List.length_map];omega)
 have q1:la=l:=bt_map (a:=-1) (b:=0) z (by decide) (by rw[show (((-1:Int).natAbs:Nat):Int)=1 from rfl,Int.one_mul]) (fun v=>0-v) (fun v=>by omega) O ha
 subst q1
 refine seqI (ρ':=envO p I q η s (some (.sh (dN t))) (some (.sh (L la))) (some (.sh (.int (j-500)))) (some (.sh (.int (2+i)))) none) ?_ ?_
 .have f1:i6 [none] (p6 (mvar 1)) (.nm 0) cyes (m2 subD (mc (.int 0)) (mvar 0)) (envO p I q η s (some (.sh (dN t))) (some (.sh (L la))) (some (.sh (.int (j-500)))) (some (.sh (.int (2+i)))) none)=some ((η.map fun v=>0-v).map .int):=by
   unfold i6
   rw[o9 (m:=mvar 1) (ds:=η.map .int) rfl,Option.bind_some]
   refine(i9 (f:=D.int) (G:=fun v=>D.int (0-v)) (fun _ ρ=>∃ o,ρ=[o]) (by
    rintro v vs ρ ⟨o,rfl⟩
    exact⟨_,rfl,rfl,(j1 (a:=.int 0) (b:=.int v) rfl rfl).trans rfl,_,rfl⟩) η _ [] ⟨none,rfl⟩ (v6 (by simp;omega))).trans ?_
   rw[List.nil_append,List.map_map]
   rfl
  rw[f7 (b:=false) (same_L (l:=la) (o9 (w9 (z8 (n5 f1) (z8 (d:=.int s) rfl (z8 (d:=dN t) rfl y7))) ea)) rfl)]
  rfl
 have U:1<=(2+i)*s:=by
  have:(1:Int)*1<=(2+i)*s:=Int.mul_le_mul (by omega) z (by omega) (by omega)
  omega
 obtain⟨lb,eb,hb⟩:=v4 (η.map fun v=>(2+i)*v+(j-500)) ((2+i)*s) t U (by rw[List.length_map];omega)
 have q2:lb=la:=bt_map (a:=2+i) (b:=j-500) z (by omega) (by rw[show ((2+i).natAbs:Int)=2+i by omega]) (fun v=>(2+i)*v+(j-500)) (fun v=>rfl) O hb
 subst q2
 have M:∀ v,T0 (2+i) v=true:=fun v=>mulOk_l _ _ (by omega) (by omega)
 refine seqI (ρ':=envO p I q η s (some (.sh (dN t))) (some (.sh (L lb))) (some (.sh (.int (j-500)))) (some (.sh (.int (2+i)))) none) ?_ ?_
 .have f1:i6 [none,some 5,some 6] (p6 (mvar 1)) (.nm 0) cyes (m2 addD (m2 mulD (mvar 2) (mvar 0)) (mvar 1)) (envO p I q η s (some (.sh (dN t))) (some (.sh (L lb))) (some (.sh (.int (j-500)))) (some (.sh (.int (2+i)))) none)=some ((η.map fun v=>(2+i)*v+(j-500)).map .int):=by
   unfold i6
   rw[o9 (m:=mvar 1) (ds:=η.map .int) rfl,Option.bind_some]
   refine(i9 (f:=D.int) (G:=fun v=>D.int ((2+i)*v+(j-500))) (fun _ ρ=>∃ o,ρ=[o,some (.sh (.int (j-500))),some (.sh (.int (2+i)))]) (by
    rintro v vs ρ ⟨o,rfl⟩
    refine⟨_,rfl,rfl,?_,_,rfl⟩
    rw[j1 (a:=.int ((2+i)*v)) (b:=.int (j-500)) ((j1 (a:=.int (2+i)) (b:=.int v) rfl rfl).trans (by show (if T0 (2+i) v=true then some (D.int ((2+i)*v))else none)=_;rw[if_pos (M v)])) rfl]
    rfl) η _ [] ⟨none,rfl⟩ (v6 (by simp;omega))).trans ?_
   rw[List.nil_append,List.map_map]
   rfl
  have Y:m2 mulD (mvar 6) (mvar 2) (envO p I q η s (some (.sh (dN t))) (some (.sh (L lb))) (some (.sh (.int (j-500)))) (some (.sh (.int (2+i)))) none)=some (.int ((2+i)*s)):=by
   rw[j1 (a:=.int (2+i)) (b:=.int s) rfl rfl]
   show (if T0 (2+i) s=true then some (D.int ((2+i)*s))else none)=_
   rw[if_pos (M s)]
  rw[f7 (b:=false) (same_L (l:=lb) (o9 (w9 (z8 (n5 f1) (z8 Y (z8 (d:=dN t) rfl y7))) eb)) rfl)]
  rfl
 obtain⟨ks,ek,hk⟩:=j6 η s z (by omega)
 obtain⟨js,ej,hj⟩:=j6 η.reverse s z (by rw[List.length_reverse];omega)
 have q3:=kept_rev z (by omega) hk hj
 subst q3
 refine seqI (ρ':=envO p I q η s (some (.sh (dN t))) (some (.sh (L lb))) (some (.sh (.int (j-500)))) (some (.sh (.int (2+i)))) none) ?_ ?_
 .have f1:mlst (mrev (bvar 1) (V2 (m1 negD (mc (.int 1))))) (envO p I q η s (some (.sh (dN t))) (some (.sh (L lb))) (some (.sh (.int (j-500)))) (some (.sh (.int (2+i)))) none)=some (RI η.reverse):=by
   refine n5 ?_
   unfold mrev
   show some (η.map D.int).reverse=_
   rw[<-List.map_reverse]
  rw[f7 (b:=false) (same_L (l:=js) (o9 (Q2 (z8 f1 (z8 (d:=.int s) rfl y7)) ej)) (o9 (Q2 (z8 (d:=RI η) rfl (z8 (d:=.int s) rfl y7)) ek)))]
  rfl
 obtain⟨m,em,hm⟩:=v4 (η++[J-20]) s t z (by simp;omega)
 have a0:=one_more z O hm
 refine seqI (ρ':=envO p R N η s (some (.sh (dN t))) (some (.sh (L lb))) (some (.sh (.int (j-500)))) (some (.sh (.int (2+i)))) (some (.sh (L m)))) ?_ ?_
 .have f1:mlstm (d7 (m2m subD (t9 h9 0 (apu (y0 (mc (.int 41)) anil))) (mpu (mc (.int 20)))) (apu anil)) (envO p I q η s (some (.sh (dN t))) (some (.sh (L lb))) (some (.sh (.int (j-500)))) (some (.sh (.int (2+i)))) none)=some (.lst [.int (J-20)],envO p R N η s (some (.sh (dN t))) (some (.sh (L lb))) (some (.sh (.int (j-500)))) (some (.sh (.int (2+i)))) none):=
   mlstm_ev (e7 (X1 (l6 e4 rfl) (Z1 (d:=.int 20) rfl) (g:=.int (J-20)) rfl) (T3 y7)) (v6 (by simp))
  have Y:addD (RI η) (.lst [.int (J-20)])=some (RI (η++[J-20])):=by
   show (if (η.map D.int).length+1<=sizeLine then some (D.lst (η.map D.int++[.int (J-20)]))else none)=_
   rw[if_pos (v6 (by simp;omega))]
   show _=some (D.lst ((η++[J-20]).map .int))
   rw[List.map_append];rfl
  refine(g9 (d:=L m) (ρ1:=envO p R N η s (some (.sh (dN t))) (some (.sh (L lb))) (some (.sh (.int (j-500)))) (some (.sh (.int (2+i)))) none) ?_).trans rfl
  unfold mcallm
  rw[e7 (X1 (Z1 (d:=RI η) rfl) f1 Y) (T3 (z8 (d:=.int s) rfl (z8 (d:=dN t) rfl y7)))]
  simp only
  rw[show m_Z1 [RI (η++[J-20]),.int s,dN t]=some (.sh (L m))from em]
 refine X9 (Z1 (d:=.bl true) ?_) rfl
 unfold mchain
 rw[l7 (m:=bvar 4) (ds:=lb.map dN) rfl,l7 (m:=bvar 7) (ds:=m.map dN) rfl,List.length_map,List.length_map]
 show (match some (D.bl (decide ((lb.length:Int)<=(m.length:Int))))with |some (.bl true)=>(match m2 addD (mlen (bvar 4)) (mc (.int 1)) _ with |some h=>leD (.int (m.length:Int)) h|none=>none)|some (.bl false)=>some (.bl false)|_=>none)=_
 rw[decide_eq_true (by omega)]
 simp only
 rw[j1 (l7 (m:=bvar 4) (ds:=lb.map dN) rfl) (b:=.int 1) rfl,List.length_map]
 show some (D.bl (decide ((m.length:Int)<=(lb.length:Int)+1)))=_
 rw[decide_eq_true (by omega)]
end
section
open PySem L2
theorem pot_ok (i:D)(c:Int)(L j:Option S):∃ o1 Y U,M4 [some (.sh i),some (.own (RL c 0)),L,j]=some (.nx [some (.sh i),o1,Y,U]):=by
 unfold M4
 have M:(10:Int)^(28:Int).toNat=10000000000000000000000000000:=by decide
 have N:powOk 10 28=true:=by decide
 obtain⟨f,z,q,hl,e1⟩:=some_row_eq c 0 25 (by decide)
 have h1:t9 m_Z14 1 (apu (y0 (mc (.int 25)) anil)) [some (.sh i),some (.own (RL c 0)),L,j]=some (.lst (f.map .int),[some (.sh i),some (.own (RL z q)),L,j]):=
  U7 (r0:=RL c 0) (r2:=RL c 0) rfl (T3 (z8 (d:=.int 25) rfl y7)) rfl e1 rfl
 have h2:d9 (.nm 0) cyes (m2 modD (mvar 0) (m2 powD (mc (.int 10)) (mc (.int 28)))) (f.map .int) (d5 [none] [some (.sh i),some (.own (RL z q)),L,j]) []=some ((f.map fun v=>v % 10000000000000000000000000000).map .int):=by
  refine(i9 (f:=D.int) (G:=fun v=>D.int (v % 10000000000000000000000000000)) (fun _ ρ=>∃ o,ρ=[o]) (by
   rintro v vs ρ ⟨o,rfl⟩
   refine⟨_,rfl,rfl,?_,_,rfl⟩
   rw[j1 (a:=.int v) (b:=.int 10000000000000000000000000000) rfl (by simp_arith [M,N,if_true])]
   show (if modOk v 10000000000000000000000000000=true then some (D.int (v % 10000000000000000000000000000))else none)=_
   rw[if_pos (W1 _ _ (by decide))]) f _ [] ⟨none,rfl⟩ (v6 (by simp;omega))).trans ?_
  rw[List.nil_append,List.map_map]
  rfl
 have h3:D6 [none] (t9 m_Z14 1 (apu (y0 (mc (.int 25)) anil))) (.nm 0) cyes (m2 modD (mvar 0) (m2 powD (mc (.int 10)) (mc (.int 28)))) [some (.sh i),some (.own (RL c 0)),L,j]=some (RI (f.map fun v=>v % 10000000000000000000000000000),[some (.sh i),some (.own (RL z q)),L,j]):=by
  unfold D6
  rw[h1]
  simp only
  rw[h2]
 generalize O:(f.map fun v=>v % 10000000000000000000000000000)=η at h3
 have hr:η.length<=25:=by rw[<-O,List.length_map];exact hl
 obtain⟨R,J,I,a0,_,e2⟩:=some_step_eq z q
 have h4:G1 S3 (d7 (t9 m_Z8 1 (apu anil)) (apu (y0 (m2 powD (mc (.int 10)) (mc (.int 28))) anil))) [some (.sh i),some (.own (RL z q)),some (.sh (RI η)),j]=some (.int (if (10000000000000000000000000000:Int)<R then 10000000000000000000000000000 else R),[some (.sh i),some (.own (RL J I)),some (.sh (RI η)),j]):=
  call1m_ev (e7 (U7 (r0:=RL z q) (r2:=RL z q) rfl (T3 y7) rfl e2 rfl) (T3 (z8 (d:=.int 10000000000000000000000000000) (by simp_arith [M,N,if_true]) y7))) rfl
 generalize Z:(if (10000000000000000000000000000:Int)<R then 10000000000000000000000000000 else R)=s at h4
 have hs:1<=s:=by rw[<-Z];split <;> omega
 obtain⟨c3,k3,e3⟩:=otherwise_eq J I η s hs (by omega)
 refine⟨some (.own (RL c3 k3)),some (.sh (RI η)),k0c s,?_⟩
 refine seqI (ρ':=[some (.sh i),some (.own (RL z q)),some (.sh (RI η)),j]) ((g9 h3).trans rfl) ?_
 refine seqI (ρ':=[some (.sh i),some (.own (RL J I)),some (.sh (RI η)),k0c s]) ((g9 h4).trans rfl) ?_
 refine seqI (ρ':=[some (.sh i),some (.own (RL J I)),some (.sh (RI η)),k0c s]) ?_ ?_
 .rw[f7 (b:=false) (cor_ev (a:=false) (b:=false) (by unfold cnot mtru;rw[w9 (z8 (d:=RI η) rfl (z8 (d:=.int s) rfl y7)) (kept_right_eq η s hs (by omega))];rfl) (by unfold cnot mtru;rw[w9 (z8 (d:=RI η) rfl (z8 (d:=.int s) rfl y7)) (G6 η s hs (by omega))];rfl))]
  rfl
 .have h5:t9 m_Z0 1 (apu (y0 (mvar 2) (y0 (mvar 3) anil))) [some (.sh i),some (.own (RL J I)),some (.sh (RI η)),k0c s]=some (.bl true,[some (.sh i),some (.own (RL c3 k3)),some (.sh (RI η)),k0c s]):=
   U7 (r0:=RL J I) (r2:=RL J I) rfl (T3 (z8 (d:=RI η) rfl (z8 (d:=.int s) rfl y7))) rfl e3 rfl
  unfold mifm cnotm mtestm
  rw[h5]
  rfl
theorem law_true (ns:List Int)(hn:ns.length<=63):m_Z24 [.lst (ns.map .int)]=some (.sh (.bl true)):=by
 unfold m_Z24 b_Z24
 refine h8 ?_
 have I:mlst (mcut (bvar 0) R9 (V2 (mc (.int 3)))) (p9 4 [.lst (ns.map .int)])=some (.lst ((cutI ns none (some 3)).map .int)):=by
  refine n5 ?_
  unfold mcut
  exact congrArg some (Q7 D.int ns none (some 3))
 have J:=cutI_len ns none (some 3)
 obtain⟨G,e⟩:=pots_eq (cutI ns none (some 3)) (by omega)
 obtain⟨ρ',e2,z,q,i,rfl⟩:=forP_all (j:=1) (body:=M4) (fun ρ=>∃ z q i,ρ=[k0a ns,z,q,i]) (fun c ρ h=>by
  obtain⟨z,q,i,rfl⟩:=h
  obtain⟨N,M,L,e⟩:=pot_ok (.lst (ns.map .int)) c q i
  exact⟨_,e,_,_,_,rfl⟩) G (p9 4 [.lst (ns.map .int)]) ⟨none,none,none,rfl⟩
 refine seqI (ρ':=[k0a ns,z,q,i]) ?_ rfl
 unfold mforP mcallP
 rw[z8 I y7,Option.bind_some,e,Option.bind_some]
 exact e2
end
end Lw
namespace Lw
open PySem L2
open PyProof.Rows
noncomputable def top (i:Nat):Stmt:=PySem.Challenge.pw_wavyrow_k30_whole_turns_and_waves.main.body.getD i (.Pass ⟨0,0,0,0⟩)
noncomputable abbrev s_Z16:Stmt:=top 6
noncomputable abbrev N_Z16:List Str:=["step"]
theorem sc_Z16:FnScope N_Z16 ["step"] (y6 s_Z16):=⟨rfl,rfl,rfl,by decide +kernel,rfl,by decide +kernel,by decide +kernel⟩
theorem ok_Z16 {P:Program}{w:World}{K:PySem.W.Frag}{mg:Str->Option Value}{base:Heap}{f:Addr}{fd:FuncData}(i:Fun K "refuse_step" "refuse_step" s_Z16 f fd):FnOk P w K mg base CX0 1 f fd ["step"] (spR K 1 J2):=
 i.okD (k:=0) (m:=b_Z16) sc_Z16 fun cdv A outer s H E j=>(y8 (m9 (t8 F7 T2 (z6 0 (pv 0)) y9 (u6 _)) (y8 R5) u5))
noncomputable abbrev F6:Stmt:=top 7
noncomputable abbrev N_Z15:List Str:=["row","step","above","below","place","number"]
theorem sc_Z15:FnScope N_Z15 ["row","step"] (y6 F6):=⟨rfl,rfl,rfl,by decide +kernel,rfl,by decide +kernel,by decide +kernel⟩
theorem W6:List.Nodup (["later","step","number","row"]:List Str):=by decide +kernel
theorem W5:List.Nodup (["later","step","number","row"]:List Str):=by decide +kernel
theorem ok_Z15 {P:Program}{w:World}{K:PySem.W.Frag}{mg:Str->Option Value}{base:Heap}{f:Addr}{fd:FuncData}(I:Fun K "later_steps" "later_steps" F6 f fd)(z:mg "enumerate"=none)(q:mg "len"=none)(j:mg "range"=none):FnOk P w K mg base CX0 1 f fd ["row","step"] (spR K 2 m_Z15):=
 I.okD (k:=0) (m:=b_Z15) sc_Z15 fun cdv A outer s H E J=>(y4 (Z8 (i:=2) sc_Z15.nd rfl (by first|exact Or.inl rfl|exact Or.inr rfl) (p7 z9)) (y4 (Z8 (i:=3) sc_Z15.nd rfl (by first|exact Or.inl rfl|exact Or.inr rfl) (p7 z9)) (y4 (c8 PassesOwn.never rfl (N6 rfl z (z0 (z6 0 (pv 0)) z9)) (b0 (is:=[4,5]) (V1 rfl (t6 (w6 (i:=4) sc_Z15.nd rfl (by first|exact Or.inl rfl|exact Or.inr rfl)) (t6 (w6 (i:=5) sc_Z15.nd rfl (by first|exact Or.inl rfl|exact Or.inr rfl)) c9)))) (y4 (P5 (i:=2) (pv 2) (k8 (X7 (d6 (N:=["later","step","number","row"]) (src:=[none,some 1,some 5,some 0]) (y6 F6) N_Z15 rfl rfl (by decide +kernel)) rfl (Y4 rfl j (z0 (k6 (z6 4 (pv 4)) y9) (z0 (v5 rfl q (w4 0 (pv 0))) z9))) (fun C fp G H0=>(p4 (i:=0) (w6 W6 rfl (by first|exact Or.inl rfl|exact Or.inr rfl)))) (fun C fp G H0=>(R4 (t8 K6 V3 (O4 (l9 (w4 3 (pv 3)) (z6 0 (pv 0))) (z6 2 (pv 2))) (z6 1 (pv 1)) (u6 _)))) (fun C fp G H0=>(z6 0 (pv 0))))) (fun t ha=>pe_bm PySem.F.plainAttrs_list PySem.F.slot_list_append PySem.F.type_list_append Q0 (pv 2) ha) (z0 (k8 (X7 (d6 (N:=["later","step","number","row"]) (src:=[none,some 1,some 5,some 0]) (y6 F6) N_Z15 rfl rfl (by decide +kernel)) rfl (Y4 rfl j (z0 (k6 (z6 4 (pv 4)) y9) (z0 (v5 rfl q (w4 0 (pv 0))) z9))) (fun C fp G H0=>(p4 (i:=0) (w6 W6 rfl (by first|exact Or.inl rfl|exact Or.inr rfl)))) (fun C fp G H0=>(R4 (t8 K6 V3 (O4 (l9 (w4 3 (pv 3)) (z6 0 (pv 0))) (z6 2 (pv 2))) (z6 1 (pv 1)) (u6 _)))) (fun C fp G H0=>(z6 0 (pv 0))))) z9)) (y8 (P5 (i:=3) (pv 3) (k8 (X7 (d6 (N:=["later","step","number","row"]) (src:=[none,some 1,some 5,some 0]) (y6 F6) N_Z15 rfl rfl (by decide +kernel)) rfl (Y4 rfl j (z0 (k6 (z6 4 (pv 4)) y9) (z0 (v5 rfl q (w4 0 (pv 0))) z9))) (fun C fp G H0=>(p4 (i:=0) (w6 W5 rfl (by first|exact Or.inl rfl|exact Or.inr rfl)))) (fun C fp G H0=>(R4 (t8 K6 V3 (O4 (z6 2 (pv 2)) (l9 (w4 3 (pv 3)) (z6 0 (pv 0)))) (z6 1 (pv 1)) (u6 _)))) (fun C fp G H0=>(z6 0 (pv 0))))) (fun t ha=>pe_bm PySem.F.plainAttrs_list PySem.F.slot_list_append PySem.F.type_list_append Q0 (pv 3) ha) (z0 (k8 (X7 (d6 (N:=["later","step","number","row"]) (src:=[none,some 1,some 5,some 0]) (y6 F6) N_Z15 rfl rfl (by decide +kernel)) rfl (Y4 rfl j (z0 (k6 (z6 4 (pv 4)) y9) (z0 (v5 rfl q (w4 0 (pv 0))) z9))) (fun C fp G H0=>(p4 (i:=0) (w6 W5 rfl (by first|exact Or.inl rfl|exact Or.inr rfl)))) (fun C fp G H0=>(R4 (t8 K6 V3 (O4 (z6 2 (pv 2)) (l9 (w4 3 (pv 3)) (z6 0 (pv 0)))) (z6 1 (pv 1)) (u6 _)))) (fun C fp G H0=>(z6 0 (pv 0))))) z9))))) (j8 3 (j8 2 (y8 (t7 (pd_tup (z0 (z6 2 (pv 2)) (z0 (z6 3 (pv 3)) z9))))))))))
noncomputable abbrev s_Z17:Stmt:=top 8
noncomputable abbrev N_Z17:List Str:=["row","places","least","place"]
theorem sc_Z17:FnScope N_Z17 ["row","places"] (y6 s_Z17):=⟨rfl,rfl,rfl,by decide +kernel,rfl,by decide +kernel,by decide +kernel⟩
theorem ok_Z17 {P:Program}{w:World}{K:PySem.W.Frag}{mg:Str->Option Value}{base:Heap}{f:Addr}{fd:FuncData}(q:Fun K "are_places" "are_places" s_Z17 f fd)(j:mg "len"=none):FnOk P w K mg base CX0 1 f fd ["row","places"] (spR K 2 m_Z17):=
 q.okD (k:=0) (m:=b_Z17) sc_Z17 fun cdv A outer s H E z=>(y4 (n4 (i:=2) sc_Z17.nd rfl (by first|exact Or.inl rfl|exact Or.inr rfl) y9) (y4 (c8 PassesOwn.never rfl (T6 (z6 1 (pv 1))) (p4 (i:=3) (w6 sc_Z17.nd rfl (by first|exact Or.inl rfl|exact Or.inr rfl))) (y4 (m9 (pc_w (K3 (t8 F7 T2 (z6 3 (pv 3)) (z6 2 (pv 2)) (u6 _)) (L5 (t8 K6 V3 (z6 3 (pv 3)) (v5 rfl j (w4 0 (pv 0))) (u6 _))))) (y8 (t7 T7)) u5) (y8 (n4 (i:=2) sc_Z17.nd rfl (by first|exact Or.inl rfl|exact Or.inr rfl) (k6 (z6 3 (pv 3)) y9))))) (y8 (t7 T7))))
noncomputable abbrev s_Z19:Stmt:=top 9
noncomputable abbrev N_Z19:List Str:=["numbers","many","left","middle","right"]
theorem sc_Z19:FnScope N_Z19 ["numbers"] (y6 s_Z19):=⟨rfl,rfl,rfl,by decide +kernel,rfl,by decide +kernel,by decide +kernel⟩
theorem ok_Z19 {P:Program}{w:World}{K:PySem.W.Frag}{mg:Str->Option Value}{base:Heap}{f:Addr}{fd:FuncData}(G:Fun K "turns_of" "turns_of" s_Z19 f fd)(z:mg "max"=none)(q:mg "min"=none)(j:mg "zip"=none):FnOk P w K mg base CX0 1 f fd ["numbers"] (spR K 1 m_Z19):=
 G.okD (k:=0) (m:=b_Z19) sc_Z19 fun cdv A outer s H E I=>(y4 (n4 (i:=1) sc_Z19.nd rfl (by first|exact Or.inl rfl|exact Or.inr rfl) y9) (y4 (c8 PassesOwn.never rfl (pid_zip3 rfl j (z0 (z6 0 (pv 0)) (z0 (k8 (pf_sl (w4 0 (pv 0)) (X6 y9) U3)) (z0 (k8 (pf_sl (w4 0 (pv 0)) (X6 y9) U3)) z9)))) (b0 (is:=[2,3,4]) (V1 rfl (t6 (w6 (i:=2) sc_Z19.nd rfl (by first|exact Or.inl rfl|exact Or.inr rfl)) (t6 (w6 (i:=3) sc_Z19.nd rfl (by first|exact Or.inl rfl|exact Or.inr rfl)) (t6 (w6 (i:=4) sc_Z19.nd rfl (by first|exact Or.inl rfl|exact Or.inr rfl)) c9))))) (y8 (m9 (pc_w (K3 (t8 F7 T2 (pd_max2 rfl rfl z (z0 (z6 2 (pv 2)) (z0 (z6 4 (pv 4)) z9))) (z6 3 (pv 3)) (u6 _)) (L5 (t8 F7 T2 (z6 3 (pv 3)) (K2 rfl rfl q (z0 (z6 2 (pv 2)) (z0 (z6 4 (pv 4)) z9))) (u6 _))))) (y8 (psd_aug (i:=1) sc_Z19.nd rfl (by first|exact Or.inl rfl|exact Or.inr rfl) y9)) u5))) (y8 (psd_retO 1 (pv 1)))))
noncomputable abbrev s_Z5:Stmt:=top 10
noncomputable abbrev N_Z5:List Str:=["row","places"]
theorem sc_Z5:FnScope N_Z5 ["row","places"] (y6 s_Z5):=⟨rfl,rfl,rfl,by decide +kernel,rfl,by decide +kernel,by decide +kernel⟩
theorem S0:List.Nodup (["place","row"]:List Str):=by decide +kernel
theorem ok_Z5 {P:Program}{w:World}{K:PySem.W.Frag}{mg:Str->Option Value}{base:Heap}{f:Addr}{fd:FuncData}{q:Addr}{G:FuncData}{j:Addr}{z:FuncData}(S:Fun K "how_many_turns" "how_many_turns" s_Z5 f fd)(M:FnOk P w K mg base CX0 1 q G ["row","places"] (spR K 2 m_Z17))(b_Z17:Binds K G ["row","places"] [])(k_Z17:PySem.W.keepIn K (.ref q)=true)(J:mg "are_places"=some (.ref q))(L:FnOk P w K mg base CX0 1 j z ["numbers"] (spR K 1 m_Z19))(b_Z19:Binds K z ["numbers"] [])(k_Z19:PySem.W.keepIn K (.ref j)=true)(I:mg "turns_of"=some (.ref j)):FnOk P w K mg base CX0 2 f fd ["row","places"] (spR K 2 m_Z5):=
 S.okD (k:=1) (m:=b_Z5) sc_Z5 fun cdv A outer s H E R=>(y4 (m9 (pc_not (pc_tru (w8 (fun t ha=>x9 (M.mono (by decide)) R rfl J k_Z17 b_Z17 .nil u7 ha) rfl (z0 (z6 0 (pv 0)) (z0 (z6 1 (pv 1)) z9)) (z7 (z7 x6))))) (y8 R5) u5) (y8 (t7 (w8 (fun t ha=>x9 (L.mono (by decide)) R rfl I k_Z19 b_Z19 .nil u7 ha) rfl (z0 (k8 (X7 (d6 (N:=["place","row"]) (src:=[none,some 0]) (y6 s_Z5) N_Z5 rfl rfl (by decide +kernel)) rfl (T6 (z6 1 (pv 1))) (fun C fp O H0=>(p4 (i:=0) (w6 S0 rfl (by first|exact Or.inl rfl|exact Or.inr rfl)))) (fun C fp O H0=>g8) (fun C fp O H0=>(l9 (w4 1 (pv 1)) (z6 0 (pv 0)))))) z9) (z7 x6)))))
noncomputable abbrev s_Z23:Stmt:=top 12
noncomputable abbrev N_Z23:List Str:=["row","step","ups","downs","place","later","rise"]
theorem sc_Z23:FnScope N_Z23 ["row","step"] (y6 s_Z23):=⟨rfl,rfl,rfl,by decide +kernel,rfl,by decide +kernel,by decide +kernel⟩
theorem nd_tails_0:List.Nodup (["place"]:List Str):=by decide +kernel
theorem nd_tails_1:List.Nodup (["place"]:List Str):=by decide +kernel
theorem ok_Z23 {P:Program}{w:World}{K:PySem.W.Frag}{mg:Str->Option Value}{base:Heap}{f:Addr}{fd:FuncData}(I:Fun K "tails" "tails" s_Z23 f fd)(j:mg "len"=none)(q:mg "range"=none)(z:mg "reversed"=none):FnOk P w K mg base CX0 1 f fd ["row","step"] (spR K 2 m_Z23):=
 I.okD (k:=0) (m:=b_Z23) sc_Z23 fun cdv A outer s H E J=>(y4 (psd_setC (L7 (i:=2) sc_Z23.nd rfl (by first|exact Or.inl rfl|exact Or.inr rfl) (d6 (N:=["place"]) (src:=[none]) (y6 s_Z23) N_Z23 rfl rfl (by decide +kernel)) rfl (Y5 rfl q (z0 (v5 rfl j (w4 0 (pv 0))) z9)) (fun C fp G H0=>(p4 (i:=0) (w6 nd_tails_0 rfl (by first|exact Or.inl rfl|exact Or.inr rfl)))) (fun C fp G H0=>g8) (fun C fp G H0=>(k8 (p7 (z0 (z6 0 (pv 0)) z9)))))) (y4 (psd_setC (L7 (i:=3) sc_Z23.nd rfl (by first|exact Or.inl rfl|exact Or.inr rfl) (d6 (N:=["place"]) (src:=[none]) (y6 s_Z23) N_Z23 rfl rfl (by decide +kernel)) rfl (Y5 rfl q (z0 (v5 rfl j (w4 0 (pv 0))) z9)) (fun C fp G H0=>(p4 (i:=0) (w6 nd_tails_1 rfl (by first|exact Or.inl rfl|exact Or.inr rfl)))) (fun C fp G H0=>g8) (fun C fp G H0=>(k8 (p7 (z0 (z6 0 (pv 0)) z9)))))) (y4 (c8 PassesOwn.never rfl (L9 rfl z rfl q (z0 (v5 rfl j (w4 0 (pv 0))) z9)) (p4 (i:=4) (w6 sc_Z23.nd rfl (by first|exact Or.inl rfl|exact Or.inr rfl))) (y8 (c8 PassesOwn.never rfl (Y4 rfl q (z0 (k6 (z6 4 (pv 4)) y9) (z0 (v5 rfl j (w4 0 (pv 0))) z9))) (p4 (i:=5) (w6 sc_Z23.nd rfl (by first|exact Or.inl rfl|exact Or.inr rfl))) (y4 (n4 (i:=6) sc_Z23.nd rfl (by first|exact Or.inl rfl|exact Or.inr rfl) (O4 (l9 (w4 0 (pv 0)) (z6 5 (pv 5))) (l9 (w4 0 (pv 0)) (z6 4 (pv 4))))) (y4 (m9 (pc_w (pcw_and (t8 K6 V3 (z6 6 (pv 6)) (z6 1 (pv 1)) (u6 _)) (pw1_and (t8 K6 V3 (v5 rfl j (X8 (l9 (w4 3 (pv 3)) (z6 5 (pv 5))))) (v5 rfl j (X8 (l9 (w4 2 (pv 2)) (z6 4 (pv 4))))) (u6 _))))) (y8 (i7 (i:=2) (Z9 (k8 (pf_cat (N4 (p7 (z0 (z6 4 (pv 4)) z9))) (X8 (l9 (w4 3 (pv 3)) (z6 5 (pv 5)))))) (R6 (pv 2) (z6 4 (pv 4)) d8)))) u5) (y8 (m9 (pc_w (pcw_and (t8 K6 V3 (R8 (z6 6 (pv 6))) (z6 1 (pv 1)) (u6 _)) (pw1_and (t8 K6 V3 (v5 rfl j (X8 (l9 (w4 2 (pv 2)) (z6 5 (pv 5))))) (v5 rfl j (X8 (l9 (w4 3 (pv 3)) (z6 4 (pv 4))))) (u6 _))))) (y8 (i7 (i:=3) (Z9 (k8 (pf_cat (N4 (p7 (z0 (z6 4 (pv 4)) z9))) (X8 (l9 (w4 2 (pv 2)) (z6 5 (pv 5)))))) (R6 (pv 3) (z6 4 (pv 4)) d8)))) u5))))))) (j8 2 (j8 3 (y8 (t7 (pd_tup (z0 (z6 2 (pv 2)) (z0 (z6 3 (pv 3)) z9))))))))))
noncomputable abbrev s_Z11:Stmt:=top 13
noncomputable abbrev N_Z11:List Str:=["places"]
theorem sc_Z11:FnScope N_Z11 ["places"] (y6 s_Z11):=⟨rfl,rfl,rfl,by decide +kernel,rfl,by decide +kernel,by decide +kernel⟩
theorem ok_Z11 {P:Program}{w:World}{K:PySem.W.Frag}{mg:Str->Option Value}{base:Heap}{f:Addr}{fd:FuncData}(j:Fun K "longer_first" "longer_first" s_Z11 f fd)(i:mg "len"=none):FnOk P w K mg base CX0 1 f fd ["places"] (spR K 1 Y2):=
 j.okD (k:=0) (m:=b_Z11) sc_Z11 fun cdv A outer s H E q=>(y8 (t7 (pd_tup (z0 (R8 (v5 rfl i (w4 0 (pv 0)))) (z0 (z6 0 (pv 0)) z9)))))
noncomputable abbrev s_Z22:Stmt:=top 14
noncomputable abbrev N_Z22:List Str:=["row","step","ups","downs"]
theorem sc_Z22:FnScope N_Z22 ["row","step"] (y6 s_Z22):=⟨rfl,rfl,rfl,by decide +kernel,rfl,by decide +kernel,by decide +kernel⟩
theorem ok_Z22 {P:Program}{w:World}{K:PySem.W.Frag}{mg:Str->Option Value}{base:Heap}{f:Addr}{fd:FuncData}{z:Addr}{J:FuncData}{q:Addr}{I:FuncData}{j:Addr}{G:FuncData}(Z:Fun K "longest" "longest" s_Z22 f fd)(U:FnOk P w K mg base CX0 1 z J ["places"] (spR K 1 Y2))(b_Z11:Binds K J ["places"] [])(k_Z11:PySem.W.keepIn K (.ref z)=true)(O:mg "longer_first"=some (.ref z))(S:FnOk P w K mg base CX0 1 q I ["step"] (spR K 1 J2))(b_Z16:Binds K I ["step"] [])(k_Z16:PySem.W.keepIn K (.ref q)=true)(N:mg "refuse_step"=some (.ref q))(R:FnOk P w K mg base CX0 1 j G ["row","step"] (spR K 2 m_Z23))(b_Z23:Binds K G ["row","step"] [])(k_Z23:PySem.W.keepIn K (.ref j)=true)(M:mg "tails"=some (.ref j))(L:mg "min"=none):FnOk P w K mg base CX0 3 f fd ["row","step"] (spR K 2 m_Z22):=
 Z.okD (k:=2) (m:=b_Z22) sc_Z22 fun cdv A outer s H E Y=>(y4 (N5 (w8 (fun t ha=>x9 (S.mono (by decide)) Y rfl N k_Z16 b_Z16 .nil u7 ha) rfl (z0 (z6 1 (pv 1)) z9) (z7 x6))) (y4 (L6 (Z9 (w8 (fun t ha=>x9 (R.mono (by decide)) Y rfl M k_Z23 b_Z23 .nil u7 ha) rfl (z0 (z6 0 (pv 0)) (z0 (z6 1 (pv 1)) z9)) (z7 (z7 x6))) (b0 (is:=[2,3]) (V1 rfl (t6 (w6 (i:=2) sc_Z22.nd rfl (by first|exact Or.inl rfl|exact Or.inr rfl)) (t6 (w6 (i:=3) sc_Z22.nd rfl (by first|exact Or.inl rfl|exact Or.inr rfl)) c9)))))) (y8 (t7 (pd_minK (N9 (U.mono (by decide)) Y.in1 b_Z11) rfl Y.units rfl L rfl O (X8 (k6 (z6 2 (pv 2)) (z6 3 (pv 3)))) (k8 (p7 z9)))))))
noncomputable abbrev s_Z21:Stmt:=top 15
noncomputable abbrev N_Z21:List Str:=["row","step"]
theorem sc_Z21:FnScope N_Z21 ["row","step"] (y6 s_Z21):=⟨rfl,rfl,rfl,by decide +kernel,rfl,by decide +kernel,by decide +kernel⟩
theorem ok_Z21 {P:Program}{w:World}{K:PySem.W.Frag}{mg:Str->Option Value}{base:Heap}{f:Addr}{fd:FuncData}{i:Addr}{j:FuncData}(J:Fun K "how_long" "how_long" s_Z21 f fd)(G:FnOk P w K mg base CX0 3 i j ["row","step"] (spR K 2 m_Z22))(b_Z22:Binds K j ["row","step"] [])(k_Z22:PySem.W.keepIn K (.ref i)=true)(z:mg "longest"=some (.ref i))(q:mg "len"=none):FnOk P w K mg base CX0 4 f fd ["row","step"] (spR K 2 m_Z21):=
 J.okD (k:=3) (m:=b_Z21) sc_Z21 fun cdv A outer s H E I=>(y8 (t7 (v5 rfl q (X8 (w8 (fun t ha=>x9 (G.mono (by decide)) I rfl z k_Z22 b_Z22 .nil u7 ha) rfl (z0 (z6 0 (pv 0)) (z0 (z6 1 (pv 1)) z9)) (z7 (z7 x6)))))))
noncomputable abbrev s_Z6:Stmt:=top 17
noncomputable abbrev N_Z6:List Str:=["tails","laters"]
theorem sc_Z6:FnScope N_Z6 ["tails","laters"] (y6 s_Z6):=⟨rfl,rfl,rfl,by decide +kernel,rfl,by decide +kernel,by decide +kernel⟩
theorem T9:List.Nodup (["later","tails"]:List Str):=by decide +kernel
theorem ok_Z6 {P:Program}{w:World}{K:PySem.W.Frag}{mg:Str->Option Value}{base:Heap}{f:Addr}{fd:FuncData}(I:Fun K "longest_behind" "longest_behind" s_Z6 f fd)(q:mg "len"=none)(j:mg "max"=none):FnOk P w K mg base CX0 1 f fd ["tails","laters"] (spR K 2 m_Z6):=
 I.okD (k:=0) (m:=b_Z6) sc_Z6 fun cdv A outer s H E G=>(y8 (t7 (pd_maxLen rfl G.units rfl j rfl q (N4 (X7 (d6 (N:=["later","tails"]) (src:=[none,some 0]) (y6 s_Z6) N_Z6 rfl rfl (by decide +kernel)) rfl (T6 (z6 1 (pv 1))) (fun C fp z H0=>(p4 (i:=0) (w6 T9 rfl (by first|exact Or.inl rfl|exact Or.inr rfl)))) (fun C fp z H0=>g8) (fun C fp z H0=>(l9 (w4 1 (pv 1)) (z6 0 (pv 0)))))) (k8 (p7 z9)))))
noncomputable abbrev s_Z7:Stmt:=top 18
noncomputable abbrev N_Z7:List Str:=["steps","fewer","above","below","fewer_ups","fewer_downs","ups","downs","risen","fallen","place"]
theorem sc_Z7:FnScope N_Z7 ["steps","fewer"] (y6 s_Z7):=⟨rfl,rfl,rfl,by decide +kernel,rfl,by decide +kernel,by decide +kernel⟩
theorem ok_Z7 {P:Program}{w:World}{K:PySem.W.Frag}{mg:Str->Option Value}{base:Heap}{f:Addr}{fd:FuncData}{z:Addr}{L:FuncData}{J:Addr}{O:FuncData}(Y:Fun K "one_turn_more" "one_turn_more" s_Z7 f fd)(N:FnOk P w K mg base CX0 1 z L ["places"] (spR K 1 Y2))(b_Z11:Binds K L ["places"] [])(k_Z11:PySem.W.keepIn K (.ref z)=true)(M:mg "longer_first"=some (.ref z))(S:FnOk P w K mg base CX0 1 J O ["tails","laters"] (spR K 2 m_Z6))(b_Z6:Binds K O ["tails","laters"] [])(k_Z6:PySem.W.keepIn K (.ref J)=true)(R:mg "longest_behind"=some (.ref J))(j:mg "len"=none)(I:mg "min"=none)(G:mg "range"=none)(q:mg "reversed"=none):FnOk P w K mg base CX0 3 f fd ["steps","fewer"] (spR K 2 m_Z7):=
 Y.okD (k:=2) (m:=b_Z7) sc_Z7 fun cdv A outer s H E U=>(y4 (L6 (Z9 (z6 0 (pv 0)) (b0 (is:=[2,3]) (V1 rfl (t6 (w6 (i:=2) sc_Z7.nd rfl (by first|exact Or.inl rfl|exact Or.inr rfl)) (t6 (w6 (i:=3) sc_Z7.nd rfl (by first|exact Or.inl rfl|exact Or.inr rfl)) c9)))))) (y4 (L6 (Z9 (z6 1 (pv 1)) (b0 (is:=[4,5]) (V1 rfl (t6 (w6 (i:=4) sc_Z7.nd rfl (by first|exact Or.inl rfl|exact Or.inr rfl)) (t6 (w6 (i:=5) sc_Z7.nd rfl (by first|exact Or.inl rfl|exact Or.inr rfl)) c9)))))) (y4 (Z8 (i:=6) sc_Z7.nd rfl (by first|exact Or.inl rfl|exact Or.inr rfl) (R7 (p7 (z0 (k8 (p7 z9)) z9)) (v5 rfl j (w4 2 (pv 2))))) (y4 (Z8 (i:=7) sc_Z7.nd rfl (by first|exact Or.inl rfl|exact Or.inr rfl) (R7 (p7 (z0 (k8 (p7 z9)) z9)) (v5 rfl j (w4 2 (pv 2))))) (y4 (Z8 (i:=8) sc_Z7.nd rfl (by first|exact Or.inl rfl|exact Or.inr rfl) (R7 (p7 (z0 (k8 (p7 z9)) z9)) (v5 rfl j (w4 2 (pv 2))))) (y4 (Z8 (i:=9) sc_Z7.nd rfl (by first|exact Or.inl rfl|exact Or.inr rfl) (R7 (p7 (z0 (k8 (p7 z9)) z9)) (v5 rfl j (w4 2 (pv 2))))) (y4 (c8 PassesOwn.never rfl (L9 rfl q rfl G (z0 (v5 rfl j (w4 2 (pv 2))) z9)) (p4 (i:=10) (w6 sc_Z7.nd rfl (by first|exact Or.inl rfl|exact Or.inr rfl))) (y4 (i7 (i:=6) (Z9 (k8 (pf_cat (N4 (p7 (z0 (z6 10 (pv 10)) z9))) (X8 (pd_borL 8 (w8 (fun t ha=>x9 (S.mono (by decide)) U rfl R k_Z6 b_Z6 .nil u7 ha) rfl (z0 (z6 8 (pv 8)) (z0 (l9 (w4 2 (pv 2)) (z6 10 (pv 10))) z9)) (z7 (z7 x6))))))) (R6 (pv 6) (z6 10 (pv 10)) d8))) (y4 (i7 (i:=7) (Z9 (k8 (pf_cat (N4 (p7 (z0 (z6 10 (pv 10)) z9))) (X8 (pd_borL 9 (w8 (fun t ha=>x9 (S.mono (by decide)) U rfl R k_Z6 b_Z6 .nil u7 ha) rfl (z0 (z6 9 (pv 9)) (z0 (l9 (w4 3 (pv 3)) (z6 10 (pv 10))) z9)) (z7 (z7 x6))))))) (R6 (pv 7) (z6 10 (pv 10)) d8))) (y4 (i7 (i:=8) (Z9 (pd_min2K (N9 (N.mono (by decide)) U.in1 b_Z11) rfl U.units rfl I rfl M (z0 (l9 (w4 6 (pv 6)) (z6 10 (pv 10))) (z0 (l9 (w4 5 (pv 5)) (z6 10 (pv 10))) z9)) (z7 (z7 x6))) (R6 (pv 8) (z6 10 (pv 10)) d8))) (y8 (i7 (i:=9) (Z9 (pd_min2K (N9 (N.mono (by decide)) U.in1 b_Z11) rfl U.units rfl I rfl M (z0 (l9 (w4 7 (pv 7)) (z6 10 (pv 10))) (z0 (l9 (w4 4 (pv 4)) (z6 10 (pv 10))) z9)) (z7 (z7 x6))) (R6 (pv 9) (z6 10 (pv 10)) d8)))))))) (j8 6 (j8 7 (y8 (t7 (pd_tup (z0 (z6 6 (pv 6)) (z0 (z6 7 (pv 7)) z9))))))))))))))
noncomputable abbrev s_Z18:Stmt:=top 19
noncomputable abbrev N_Z18:List Str:=["row"]
theorem sc_Z18:FnScope N_Z18 ["row"] (y6 s_Z18):=⟨rfl,rfl,rfl,by decide +kernel,rfl,by decide +kernel,by decide +kernel⟩
theorem ok_Z18 {P:Program}{w:World}{K:PySem.W.Frag}{mg:Str->Option Value}{base:Heap}{f:Addr}{fd:FuncData}(j:Fun K "no_tails" "no_tails" s_Z18 f fd)(i:mg "len"=none):FnOk P w K mg base CX0 1 f fd ["row"] (spR K 1 m_Z18):=
 j.okD (k:=0) (m:=b_Z18) sc_Z18 fun cdv A outer s H E q=>(y8 (t7 (pd_tup (z0 (k8 (R7 (p7 (z0 (k8 (p7 z9)) z9)) (v5 rfl i (w4 0 (pv 0))))) (z0 (k8 (R7 (p7 (z0 (k8 (p7 z9)) z9)) (v5 rfl i (w4 0 (pv 0))))) z9)))))
noncomputable abbrev s_Z10:Stmt:=top 20
noncomputable abbrev N_Z10:List Str:=["tails","ups","downs"]
theorem sc_Z10:FnScope N_Z10 ["tails"] (y6 s_Z10):=⟨rfl,rfl,rfl,by decide +kernel,rfl,by decide +kernel,by decide +kernel⟩
theorem ok_Z10 {P:Program}{w:World}{K:PySem.W.Frag}{mg:Str->Option Value}{base:Heap}{f:Addr}{fd:FuncData}{j:Addr}{q:FuncData}(L:Fun K "longest_tail" "longest_tail" s_Z10 f fd)(I:FnOk P w K mg base CX0 1 j q ["places"] (spR K 1 Y2))(b_Z11:Binds K q ["places"] [])(k_Z11:PySem.W.keepIn K (.ref j)=true)(G:mg "longer_first"=some (.ref j))(z:mg "min"=none):FnOk P w K mg base CX0 3 f fd ["tails"] (spR K 1 F9):=
 L.okD (k:=2) (m:=b_Z10) sc_Z10 fun cdv A outer s H E J=>(y4 (L6 (Z9 (z6 0 (pv 0)) (b0 (is:=[1,2]) (V1 rfl (t6 (w6 (i:=1) sc_Z10.nd rfl (by first|exact Or.inl rfl|exact Or.inr rfl)) (t6 (w6 (i:=2) sc_Z10.nd rfl (by first|exact Or.inl rfl|exact Or.inr rfl)) c9)))))) (y8 (t7 (pd_minK (N9 (I.mono (by decide)) J.in1 b_Z11) rfl J.units rfl z rfl G (X8 (k6 (z6 1 (pv 1)) (z6 2 (pv 2)))) (k8 (p7 z9))))))
noncomputable abbrev s_Z1:Stmt:=top 21
noncomputable abbrev N_Z1:List Str:=["row","step","turns","steps","tails","turn"]
theorem sc_Z1:FnScope N_Z1 ["row","step","turns"] (y6 s_Z1):=⟨rfl,rfl,rfl,by decide +kernel,rfl,by decide +kernel,by decide +kernel⟩
theorem ok_Z1 {P:Program}{w:World}{K:PySem.W.Frag}{mg:Str->Option Value}{base:Heap}{f:Addr}{fd:FuncData}{z:Addr}{N:FuncData}{G:Addr}{O:FuncData}{j:Addr}{L:FuncData}{J:Addr}{R:FuncData}{q:Addr}{M:FuncData}(Fn:Fun K "longest_turning" "longest_turning" s_Z1 f fd)(a4:FnOk P w K mg base CX0 1 z N ["row","step"] (spR K 2 m_Z15))(b_Z15:Binds K N ["row","step"] [])(k_Z15:PySem.W.keepIn K (.ref z)=true)(a0:mg "later_steps"=some (.ref z))(a5:FnOk P w K mg base CX0 3 G O ["tails"] (spR K 1 F9))(b_Z10:Binds K O ["tails"] [])(k_Z10:PySem.W.keepIn K (.ref G)=true)(a1:mg "longest_tail"=some (.ref G))(a2:FnOk P w K mg base CX0 1 j L ["row"] (spR K 1 m_Z18))(b_Z18:Binds K L ["row"] [])(k_Z18:PySem.W.keepIn K (.ref j)=true)(Y:mg "no_tails"=some (.ref j))(a7:FnOk P w K mg base CX0 3 J R ["steps","fewer"] (spR K 2 m_Z7))(b_Z7:Binds K R ["steps","fewer"] [])(k_Z7:PySem.W.keepIn K (.ref J)=true)(a6:mg "one_turn_more"=some (.ref J))(a3:FnOk P w K mg base CX0 1 q M ["step"] (spR K 1 J2))(b_Z16:Binds K M ["step"] [])(k_Z16:PySem.W.keepIn K (.ref q)=true)(Z:mg "refuse_step"=some (.ref q))(U:mg "len"=none)(S:mg "min"=none)(I:mg "range"=none):FnOk P w K mg base CX0 4 f fd ["row","step","turns"] (spR K 3 m_Z1):=
 Fn.okD (k:=3) (m:=b_Z1) sc_Z1 fun cdv A outer s H E hr=>(y4 (N5 (w8 (fun t ha=>x9 (a3.mono (by decide)) hr rfl Z k_Z16 b_Z16 .nil u7 ha) rfl (z0 (z6 1 (pv 1)) z9) (z7 x6))) (y4 (m9 (t8 F7 T2 (z6 2 (pv 2)) y9 (u6 _)) (y8 R5) u5) (y4 (n4 (i:=3) sc_Z1.nd rfl (by first|exact Or.inl rfl|exact Or.inr rfl) (w8 (fun t ha=>x9 (a4.mono (by decide)) hr rfl a0 k_Z15 b_Z15 .nil u7 ha) rfl (z0 (z6 0 (pv 0)) (z0 (z6 1 (pv 1)) z9)) (z7 (z7 x6)))) (y4 (n4 (i:=4) sc_Z1.nd rfl (by first|exact Or.inl rfl|exact Or.inr rfl) (w8 (fun t ha=>x9 (a2.mono (by decide)) hr rfl Y k_Z18 b_Z18 .nil u7 ha) rfl (z0 (z6 0 (pv 0)) z9) (z7 x6))) (y4 (c8 PassesOwn.never rfl (Y5 rfl I (z0 (k6 (K2 rfl rfl S (z0 (z6 2 (pv 2)) (z0 (v5 rfl U (w4 0 (pv 0))) z9))) y9) z9)) (p4 (i:=5) (w6 sc_Z1.nd rfl (by first|exact Or.inl rfl|exact Or.inr rfl))) (y8 (n4 (i:=4) sc_Z1.nd rfl (by first|exact Or.inl rfl|exact Or.inr rfl) (w8 (fun t ha=>x9 (a7.mono (by decide)) hr rfl a6 k_Z7 b_Z7 .nil u7 ha) rfl (z0 (z6 3 (pv 3)) (z0 (z6 4 (pv 4)) z9)) (z7 (z7 x6)))))) (y8 (t7 (w8 (fun t ha=>x9 (a5.mono (by decide)) hr rfl a1 k_Z10 b_Z10 .nil u7 ha) rfl (z0 (z6 4 (pv 4)) z9) (z7 x6)))))))))
noncomputable abbrev s_Z12:Stmt:=top 22
noncomputable abbrev N_Z12:List Str:=["steps","above","below","most","place"]
theorem sc_Z12:FnScope N_Z12 ["steps"] (y6 s_Z12):=⟨rfl,rfl,rfl,by decide +kernel,rfl,by decide +kernel,by decide +kernel⟩
theorem P7:List.Nodup (["later","most"]:List Str):=by decide +kernel
theorem ok_Z12 {P:Program}{w:World}{K:PySem.W.Frag}{mg:Str->Option Value}{base:Heap}{f:Addr}{fd:FuncData}(L:Fun K "most_stepped" "most_stepped" s_Z12 f fd)(G:mg "len"=none)(z:mg "max"=none)(q:mg "range"=none)(j:mg "reversed"=none):FnOk P w K mg base CX0 1 f fd ["steps"] (spR K 1 m_Z12):=
 L.okD (k:=0) (m:=b_Z12) sc_Z12 fun cdv A outer s H E J=>(y4 (L6 (Z9 (z6 0 (pv 0)) (b0 (is:=[1,2]) (V1 rfl (t6 (w6 (i:=1) sc_Z12.nd rfl (by first|exact Or.inl rfl|exact Or.inr rfl)) (t6 (w6 (i:=2) sc_Z12.nd rfl (by first|exact Or.inl rfl|exact Or.inr rfl)) c9)))))) (y4 (Z8 (i:=3) sc_Z12.nd rfl (by first|exact Or.inl rfl|exact Or.inr rfl) (R7 (p7 (z0 y9 z9)) (v5 rfl G (w4 1 (pv 1))))) (y4 (c8 PassesOwn.never rfl (L9 rfl j rfl q (z0 (v5 rfl G (w4 1 (pv 1))) z9)) (p4 (i:=4) (w6 sc_Z12.nd rfl (by first|exact Or.inl rfl|exact Or.inr rfl))) (y8 (i7 (i:=3) (Z9 (k6 y9 (pd_maxE rfl J.units rfl z (N4 (pf_compO (srcOk_of (by decide)) (d6 (N:=["later","most"]) (src:=[none,some 3]) (y6 s_Z12) N_Z12 rfl rfl (by decide +kernel)) rfl (T6 (k6 (l9 (w4 1 (pv 1)) (z6 4 (pv 4))) (l9 (w4 2 (pv 2)) (z6 4 (pv 4))))) (fun C fp I H0=>(p4 (i:=0) (w6 P7 rfl (by first|exact Or.inl rfl|exact Or.inr rfl)))) (fun C fp I H0=>g8) (fun C fp I H0=>(l9 (w4 1 (pv 1)) (z6 0 (pv 0)))))) y9)) (R6 (pv 3) (z6 4 (pv 4)) d8))))) (j8 3 (y8 (t7 (pd_maxE rfl J.units rfl z (w4 3 (pv 3)) y9)))))))
noncomputable abbrev s_Z9:Stmt:=top 23
noncomputable abbrev N_Z9:List Str:=["row","step","steps","most","tails","kept"]
theorem sc_Z9:FnScope N_Z9 ["row","step"] (y6 s_Z9):=⟨rfl,rfl,rfl,by decide +kernel,rfl,by decide +kernel,by decide +kernel⟩
theorem ok_Z9 {P:Program}{w:World}{K:PySem.W.Frag}{mg:Str->Option Value}{base:Heap}{f:Addr}{fd:FuncData}{G:Addr}{S:FuncData}{J:Addr}{Y:FuncData}{I:Addr}{U:FuncData}{q:Addr}{O:FuncData}{N:Addr}{a0:FuncData}{z:Addr}{R:FuncData}(Fn:Fun K "kept_by_turns" "kept_by_turns" s_Z9 f fd)(a9:FnOk P w K mg base CX0 1 G S ["row","step"] (spR K 2 m_Z15))(b_Z15:Binds K S ["row","step"] [])(k_Z15:PySem.W.keepIn K (.ref G)=true)(a5:mg "later_steps"=some (.ref G))(M:FnOk P w K mg base CX0 3 J Y ["tails"] (spR K 1 F9))(b_Z10:Binds K Y ["tails"] [])(k_Z10:PySem.W.keepIn K (.ref J)=true)(L:mg "longest_tail"=some (.ref J))(aa:FnOk P w K mg base CX0 1 I U ["steps"] (spR K 1 m_Z12))(b_Z12:Binds K U ["steps"] [])(k_Z12:PySem.W.keepIn K (.ref I)=true)(a6:mg "most_stepped"=some (.ref I))(a7:FnOk P w K mg base CX0 1 q O ["row"] (spR K 1 m_Z18))(b_Z18:Binds K O ["row"] [])(k_Z18:PySem.W.keepIn K (.ref q)=true)(a3:mg "no_tails"=some (.ref q))(a2:FnOk P w K mg base CX0 3 N a0 ["steps","fewer"] (spR K 2 m_Z7))(b_Z7:Binds K a0 ["steps","fewer"] [])(k_Z7:PySem.W.keepIn K (.ref N)=true)(a1:mg "one_turn_more"=some (.ref N))(a8:FnOk P w K mg base CX0 1 z R ["step"] (spR K 1 J2))(b_Z16:Binds K R ["step"] [])(k_Z16:PySem.W.keepIn K (.ref z)=true)(a4:mg "refuse_step"=some (.ref z))(j:mg "len"=none):FnOk P w K mg base CX0 4 f fd ["row","step"] (spR K 2 m_Z9):=
 Fn.okD (k:=3) (m:=b_Z9) sc_Z9 fun cdv A outer s H E Z=>(y4 (N5 (w8 (fun t ha=>x9 (a8.mono (by decide)) Z rfl a4 k_Z16 b_Z16 .nil u7 ha) rfl (z0 (z6 1 (pv 1)) z9) (z7 x6))) (y4 (n4 (i:=2) sc_Z9.nd rfl (by first|exact Or.inl rfl|exact Or.inr rfl) (w8 (fun t ha=>x9 (a9.mono (by decide)) Z rfl a5 k_Z15 b_Z15 .nil u7 ha) rfl (z0 (z6 0 (pv 0)) (z0 (z6 1 (pv 1)) z9)) (z7 (z7 x6)))) (y4 (n4 (i:=3) sc_Z9.nd rfl (by first|exact Or.inl rfl|exact Or.inr rfl) (w8 (fun t ha=>x9 (aa.mono (by decide)) Z rfl a6 k_Z12 b_Z12 .nil u7 ha) rfl (z0 (z6 2 (pv 2)) z9) (z7 x6))) (y4 (n4 (i:=4) sc_Z9.nd rfl (by first|exact Or.inl rfl|exact Or.inr rfl) (w8 (fun t ha=>x9 (a2.mono (by decide)) Z rfl a1 k_Z7 b_Z7 .nil u7 ha) rfl (z0 (z6 2 (pv 2)) (z0 (w8 (fun t ha=>x9 (a7.mono (by decide)) Z rfl a3 k_Z18 b_Z18 .nil u7 ha) rfl (z0 (z6 0 (pv 0)) z9) (z7 x6)) z9)) (z7 (z7 x6)))) (y4 (Z8 (i:=5) sc_Z9.nd rfl (by first|exact Or.inl rfl|exact Or.inr rfl) (p7 (z0 (v5 rfl j (X8 (w8 (fun t ha=>x9 (M.mono (by decide)) Z rfl L k_Z10 b_Z10 .nil u7 ha) rfl (z0 (z6 4 (pv 4)) z9) (z7 x6)))) z9))) (y4 (psd_while 1000 PassesOwn.never (t8 F7 T2 (l9 (w4 5 (pv 5)) (R8 y9)) (z6 3 (pv 3)) (u6 _)) (y4 (n4 (i:=4) sc_Z9.nd rfl (by first|exact Or.inl rfl|exact Or.inr rfl) (w8 (fun t ha=>x9 (a2.mono (by decide)) Z rfl a1 k_Z7 b_Z7 .nil u7 ha) rfl (z0 (z6 2 (pv 2)) (z0 (z6 4 (pv 4)) z9)) (z7 (z7 x6)))) (y8 (P5 (i:=5) (pv 5) (v5 rfl j (X8 (w8 (fun t ha=>x9 (M.mono (by decide)) Z rfl L k_Z10 b_Z10 .nil u7 ha) rfl (z0 (z6 4 (pv 4)) z9) (z7 x6)))) (fun t ha=>pe_bm PySem.F.plainAttrs_list PySem.F.slot_list_append PySem.F.type_list_append Q0 (pv 5) ha) (z0 (v5 rfl j (X8 (w8 (fun t ha=>x9 (M.mono (by decide)) Z rfl L k_Z10 b_Z10 .nil u7 ha) rfl (z0 (z6 4 (pv 4)) z9) (z7 x6)))) z9))))) (y8 (psd_retO 5 (pv 5)))))))))
noncomputable abbrev s_Z13:Stmt:=top 24
noncomputable abbrev N_Z13:List Str:=["row","step","many","turns","kept"]
theorem sc_Z13:FnScope N_Z13 ["row","step","many"] (y6 s_Z13):=⟨rfl,rfl,rfl,by decide +kernel,rfl,by decide +kernel,by decide +kernel⟩
theorem ok_Z13 {P:Program}{w:World}{K:PySem.W.Frag}{mg:Str->Option Value}{base:Heap}{f:Addr}{fd:FuncData}{z:Addr}{I:FuncData}{q:Addr}{G:FuncData}(R:Fun K "fewest_turns" "fewest_turns" s_Z13 f fd)(N:FnOk P w K mg base CX0 4 z I ["row","step"] (spR K 2 m_Z9))(b_Z9:Binds K I ["row","step"] [])(k_Z9:PySem.W.keepIn K (.ref z)=true)(M:mg "kept_by_turns"=some (.ref z))(L:FnOk P w K mg base CX0 1 q G ["step"] (spR K 1 J2))(b_Z16:Binds K G ["step"] [])(k_Z16:PySem.W.keepIn K (.ref q)=true)(J:mg "refuse_step"=some (.ref q))(j:mg "enumerate"=none):FnOk P w K mg base CX0 5 f fd ["row","step","many"] (spR K 3 m_Z13):=
 R.okD (k:=4) (m:=b_Z13) sc_Z13 fun cdv A outer s H E O=>(y4 (N5 (w8 (fun t ha=>x9 (L.mono (by decide)) O rfl J k_Z16 b_Z16 .nil u7 ha) rfl (z0 (z6 1 (pv 1)) z9) (z7 x6))) (y4 (m9 (t8 F7 T2 (z6 2 (pv 2)) y9 (u6 _)) (y8 R5) u5) (y4 (c8 PassesOwn.never rfl (N6 rfl j (z0 (w8 (fun t ha=>x9 (N.mono (by decide)) O rfl M k_Z9 b_Z9 .nil u7 ha) rfl (z0 (z6 0 (pv 0)) (z0 (z6 1 (pv 1)) z9)) (z7 (z7 x6))) z9)) (b0 (is:=[3,4]) (V1 rfl (t6 (w6 (i:=3) sc_Z13.nd rfl (by first|exact Or.inl rfl|exact Or.inr rfl)) (t6 (w6 (i:=4) sc_Z13.nd rfl (by first|exact Or.inl rfl|exact Or.inr rfl)) c9)))) (y8 (m9 (t8 K6 V3 (z6 4 (pv 4)) (z6 2 (pv 2)) (u6 _)) (y8 (psd_retO 3 (pv 3))) u5))) (y8 (t7 pd_non)))))
noncomputable abbrev s_Z20:Stmt:=top 26
noncomputable abbrev N_Z20:List Str:=["pot","many","cell","stir"]
theorem sc_Z20:FnScope N_Z20 ["pot","many"] (y6 s_Z20):=⟨rfl,rfl,rfl,by decide +kernel,rfl,by decide +kernel,by decide +kernel⟩
theorem ok_Z20 {P:Program}{w:World}{K:PySem.W.Frag}{mg:Str->Option Value}{base:Heap}{f:Addr}{fd:FuncData}(j:Fun K "_law_next" "_law_next" s_Z20 f fd):FnOk P w K mg base CX0 1 f fd ["pot","many"] (spG K 2 h9):=
 j.okGl (k:=0) (m:=b_Z20) sc_Z20 (by decide) fun cdv A outer s H E q=>(y4 (i7 (i:=0) (Z9 (k6 (l9 (w4 0 (pv 0)) y9) y9) (R6 (pv 0) y9 d8))) (y4 (n4 (i:=2) sc_Z20.nd rfl (by first|exact Or.inl rfl|exact Or.inr rfl) (l9 (w4 0 (pv 0)) y9)) (y4 (m9 (t8 K6 V3 (z6 2 (pv 2)) (pd_pow y9 y9) (u6 _)) (y4 (i7 (i:=0) (Z9 (pd_fdiv (z6 2 (pv 2)) (z6 1 (pv 1))) (R6 (pv 0) y9 d8))) (y8 (j5 0 (p5 (K1 (z6 2 (pv 2)) (z6 1 (pv 1))))))) u5) (y4 (n4 (i:=3) sc_Z20.nd rfl (by first|exact Or.inl rfl|exact Or.inr rfl) (K1 (k6 (k6 (K0 (z6 2 (pv 2)) y9) (K0 (l9 (w4 0 (pv 0)) y9) y9)) y9) y9)) (y4 (n4 (i:=3) sc_Z20.nd rfl (by first|exact Or.inl rfl|exact Or.inr rfl) (K1 (K0 (z6 3 (pv 3)) (z6 3 (pv 3))) y9)) (y8 (j5 0 (p5 (K1 (pd_fdiv (K1 (k6 (K0 (z6 3 (pv 3)) y9) (K0 (l9 (w4 0 (pv 0)) y9) y9)) y9) y9) (z6 1 (pv 1)))))))))))
noncomputable abbrev h6:Stmt:=top 27
noncomputable abbrev C4:List Str:=["script"]
theorem sc_law_pots:FnScope C4 ["script"] (y6 h6):=⟨rfl,rfl,rfl,by decide +kernel,rfl,by decide +kernel,by decide +kernel⟩
theorem nd_law_pots_0:List.Nodup (["cell"]:List Str):=by decide +kernel
theorem ok_law_pots {P:Program}{w:World}{K:PySem.W.Frag}{mg:Str->Option Value}{base:Heap}{f:Addr}{fd:FuncData}(G:Fun K "_law_pots" "_law_pots" h6 f fd)(j:mg "len"=none):FnOk P w K mg base CX0 1 f fd ["script"] (spP K 1 X0):=
 G.okP (k:=0) sc_law_pots rfl (fun cdv A outer s H E q=>(t8 op_eq V4 (v5 rfl j (w4 0 (pv 0))) y9 (u6 _))) (fun cdv A outer s H E q=>(pp_lst1 (p7 (z0 y9 (z0 y9 z9))))) (fun cdv A outer s H E q=>(pp_comp (d6 (N:=["cell"]) (src:=[none]) (y6 h6) C4 rfl rfl (by decide +kernel)) rfl (T6 (k8 (pf_sl (w4 0 (pv 0)) U3 (X6 y9)))) (fun C fp z H0=>(p4 (i:=0) (w6 nd_law_pots_0 rfl (by first|exact Or.inl rfl|exact Or.inr rfl)))) (fun C fp z H0=>(p7 (z0 (z6 0 (pv 0)) (z0 y9 z9))))))
noncomputable abbrev s_Z2:Stmt:=top 28
noncomputable abbrev N_Z2:List Str:=["pot","kind"]
theorem sc_Z2:FnScope N_Z2 ["pot","kind"] (y6 s_Z2):=⟨rfl,rfl,rfl,by decide +kernel,rfl,by decide +kernel,by decide +kernel⟩
theorem ok_Z2 {P:Program}{w:World}{K:PySem.W.Frag}{mg:Str->Option Value}{base:Heap}{f:Addr}{fd:FuncData}{z:Addr}{G:FuncData}(J:Fun K "_law_some_number" "_law_some_number" s_Z2 f fd)(q:FnOk P w K mg base CX0 1 z G ["pot","many"] (spG K 2 h9))(b_Z20:Binds K G ["pot","many"] [])(k_Z20:PySem.W.keepIn K (.ref z)=true)(j:mg "_law_next"=some (.ref z)):FnOk P w K mg base CX0 2 f fd ["pot","kind"] (spG K 2 m_Z2):=
 J.okGl (k:=1) (m:=b_Z2) sc_Z2 (by decide) fun cdv A outer s H E I=>(y4 (m9 (t8 op_eq V4 (z6 1 (pv 1)) y9 (u6 _)) (y8 (j5 0 (u9 (i:=0) (fun t ha=>x9 (q.mono (by decide)) I rfl j k_Z20 b_Z20 .nil u7 ha) rfl (pv 0) (t4 (z0 y9 z9)) (n9 (z7 x6))))) u5) (y4 (m9 (t8 op_eq V4 (z6 1 (pv 1)) y9 (u6 _)) (y8 (j5 0 (T1 op_sub K4 (u9 (i:=0) (fun t ha=>x9 (q.mono (by decide)) I rfl j k_Z20 b_Z20 .nil u7 ha) rfl (pv 0) (t4 (z0 y9 z9)) (n9 (z7 x6))) (p5 y9)))) u5) (y4 (m9 (t8 op_eq V4 (z6 1 (pv 1)) y9 (u6 _)) (y8 (j5 0 (T1 op_sub K4 (u9 (i:=0) (fun t ha=>x9 (q.mono (by decide)) I rfl j k_Z20 b_Z20 .nil u7 ha) rfl (pv 0) (t4 (z0 y9 z9)) (n9 (z7 x6))) (p5 y9)))) u5) (y8 (j5 0 (T1 op_mul opd_mul (pdm_ix (p5 (k8 (p7 (z0 (R8 y9) (z0 y9 z9))))) (u9 (i:=0) (fun t ha=>x9 (q.mono (by decide)) I rfl j k_Z20 b_Z20 .nil u7 ha) rfl (pv 0) (t4 (z0 y9 z9)) (n9 (z7 x6)))) (T1 (OpR.or D2 T8) P6 (p5 (pd_pow y9 y9)) (u9 (i:=0) (fun t ha=>x9 (q.mono (by decide)) I rfl j k_Z20 b_Z20 .nil u7 ha) rfl (pv 0) (t4 (z0 y9 z9)) (n9 (z7 x6))))))))))
noncomputable abbrev s_Z14:Stmt:=top 29
noncomputable abbrev N_Z14:List Str:=["pot","most","kind","many","found","shape"]
theorem sc_Z14:FnScope N_Z14 ["pot","most"] (y6 s_Z14):=⟨rfl,rfl,rfl,by decide +kernel,rfl,by decide +kernel,by decide +kernel⟩
theorem P8:List.Nodup (["k","pot","kind"]:List Str):=by decide +kernel
theorem Y7:List.Nodup (["k","number"]:List Str):=by decide +kernel
theorem ok_Z14 {P:Program}{w:World}{K:PySem.W.Frag}{mg:Str->Option Value}{base:Heap}{f:Addr}{fd:FuncData}{I:Addr}{R:FuncData}{O:Addr}{S:FuncData}(Fn:Fun K "_law_some_row" "_law_some_row" s_Z14 f fd)(G:FnOk P w K mg base CX0 1 I R ["pot","many"] (spG K 2 h9))(b_Z20:Binds K R ["pot","many"] [])(k_Z20:PySem.W.keepIn K (.ref I)=true)(z:mg "_law_next"=some (.ref I))(a0:FnOk P w K mg base CX0 2 O S ["pot","kind"] (spG K 2 m_Z2))(b_Z2:Binds K S ["pot","kind"] [])(k_Z2:PySem.W.keepIn K (.ref O)=true)(Z:mg "_law_some_number"=some (.ref O))(q:mg "enumerate"=none)(M:mg "min"=none)(L:mg "range"=none)(J:mg "sorted"=none):FnOk P w K mg base CX0 3 f fd ["pot","most"] (spG K 2 m_Z14):=
 Fn.okGl (k:=2) (m:=b_Z14) sc_Z14 (by decide) fun cdv A outer s H E Y=>(y4 (Z7 (i:=2) sc_Z14.nd rfl (by first|exact Or.inl rfl|exact Or.inr rfl) (u9 (i:=0) (fun t ha=>x9 (G.mono (by decide)) Y rfl z k_Z20 b_Z20 .nil u7 ha) rfl (pv 0) (t4 (z0 y9 z9)) (n9 (z7 x6)))) (y4 (Z7 (i:=3) sc_Z14.nd rfl (by first|exact Or.inl rfl|exact Or.inr rfl) (u9 (i:=0) (fun t ha=>x9 (G.mono (by decide)) Y rfl z k_Z20 b_Z20 .nil u7 ha) rfl (pv 0) (Y0 (pdm_ix (p5 (k8 (p7 (z0 (K2 rfl rfl M (z0 y9 (z0 (k6 (z6 1 (pv 1)) y9) z9))) (z0 (K2 rfl rfl M (z0 y9 (z0 (k6 (z6 1 (pv 1)) y9) z9))) (z0 (k6 (z6 1 (pv 1)) y9) z9)))))) (u9 (i:=0) (fun t ha=>x9 (G.mono (by decide)) Y rfl z k_Z20 b_Z20 .nil u7 ha) rfl (pv 0) (t4 (z0 y9 z9)) (n9 (z7 x6)))) (t4 z9)) (C2 (n9 x6)))) (y4 (psd_setCmB (i:=0) (j:=1) rfl (by decide) (L7 (i:=4) sc_Z14.nd rfl (by first|exact Or.inl rfl|exact Or.inr rfl) (d6 (N:=["k","pot","kind"]) (src:=[none,some 0,some 2]) (y6 s_Z14) N_Z14 rfl rfl (by decide +kernel)) rfl (Y5 rfl L (z0 (z6 3 (pv 3)) z9)) (fun C fp U H0=>(w6 (i:=0) P8 rfl (by first|exact Or.inl rfl|exact Or.inr rfl))) (fun C fp U H0=>pts_nil) (fun C fp U H0=>(u9 (i:=1) (fun t ha=>x9 (a0.mono (by decide)) Y rfl Z k_Z2 b_Z2 .nil u7 ha) rfl (pv 1) (t4 (z0 (z6 2 (pv 2)) z9)) (n9 (z7 x6)))))) (y4 (Z7 (i:=5) sc_Z14.nd rfl (by first|exact Or.inl rfl|exact Or.inr rfl) (u9 (i:=0) (fun t ha=>x9 (G.mono (by decide)) Y rfl z k_Z20 b_Z20 .nil u7 ha) rfl (pv 0) (t4 (z0 y9 z9)) (n9 (z7 x6)))) (y4 (m9 (t8 op_eq V4 (z6 5 (pv 5)) y9 (u6 _)) (y8 (n4 (i:=4) sc_Z14.nd rfl (by first|exact Or.inl rfl|exact Or.inr rfl) (k8 (pf_sorted rfl J (w4 4 (pv 4)) PyProof.Rows.boot_sorted)))) u5) (y4 (m9 (t8 op_eq V4 (z6 5 (pv 5)) y9 (u6 _)) (y8 (psd_setCs (L7 (i:=4) sc_Z14.nd rfl (by first|exact Or.inl rfl|exact Or.inr rfl) (d6 (N:=["k","number"]) (src:=[none,none]) (y6 s_Z14) N_Z14 rfl rfl (by decide +kernel)) rfl (N6 rfl q (z0 (z6 4 (pv 4)) z9)) (fun C fp U H0=>(b0 (is:=[0,1]) (V1 rfl (t6 (w6 (i:=0) Y7 rfl (by first|exact Or.inl rfl|exact Or.inr rfl)) (t6 (w6 (i:=1) Y7 rfl (by first|exact Or.inl rfl|exact Or.inr rfl)) c9))))) (fun C fp U H0=>g8) (fun C fp U H0=>(k6 (z6 1 (pv 1)) (l9 (N4 (p7 (z0 y9 (z0 (R8 y9) z9)))) (K1 (z6 0 (pv 0)) y9))))))) u5) (y4 (m9 (t8 op_eq V4 (z6 5 (pv 5)) y9 (u6 _)) (y8 (n4 (i:=4) sc_Z14.nd rfl (by first|exact Or.inl rfl|exact Or.inr rfl) (k8 (R7 (pf_sl (w4 4 (pv 4)) U3 (X6 y9)) (z6 3 (pv 3)))))) u5) (y8 (j5 0 (p5 (z6 4 (pv 4))))))))))))
noncomputable abbrev s_Z8:Stmt:=top 30
noncomputable abbrev N_Z8:List Str:=["pot"]
theorem sc_Z8:FnScope N_Z8 ["pot"] (y6 s_Z8):=⟨rfl,rfl,rfl,by decide +kernel,rfl,by decide +kernel,by decide +kernel⟩
theorem ok_Z8 {P:Program}{w:World}{K:PySem.W.Frag}{mg:Str->Option Value}{base:Heap}{f:Addr}{fd:FuncData}{j:Addr}{G:FuncData}(J:Fun K "_law_some_step" "_law_some_step" s_Z8 f fd)(z:FnOk P w K mg base CX0 1 j G ["pot","many"] (spG K 2 h9))(b_Z20:Binds K G ["pot","many"] [])(k_Z20:PySem.W.keepIn K (.ref j)=true)(q:mg "_law_next"=some (.ref j)):FnOk P w K mg base CX0 2 f fd ["pot"] (spG K 1 m_Z8):=
 J.okGl (k:=1) (m:=b_Z8) sc_Z8 (by decide) fun cdv A outer s H E I=>(y8 (j5 0 (pdm_ix (pdm_lst (Y0 (p5 y9) (Y0 (p5 y9) (Y0 (T1 (OpR.or D2 T8) P6 (p5 y9) (u9 (i:=0) (fun t ha=>x9 (z.mono (by decide)) I rfl q k_Z20 b_Z20 .nil u7 ha) rfl (pv 0) (t4 (z0 y9 z9)) (n9 (z7 x6)))) (Y0 (T1 (OpR.or D2 T8) P6 (p5 y9) (u9 (i:=0) (fun t ha=>x9 (z.mono (by decide)) I rfl q k_Z20 b_Z20 .nil u7 ha) rfl (pv 0) (t4 (z0 y9 z9)) (n9 (z7 x6)))) (t4 (z0 (pd_pow y9 y9) z9))))))) (u9 (i:=0) (fun t ha=>x9 (z.mono (by decide)) I rfl q k_Z20 b_Z20 .nil u7 ha) rfl (pv 0) (t4 (z0 y9 z9)) (n9 (z7 x6))))))
noncomputable abbrev s_Z4:Stmt:=top 31
noncomputable abbrev N_Z4:List Str:=["row","step","kept","turns","many","told"]
theorem sc_Z4:FnScope N_Z4 ["row","step"] (y6 s_Z4):=⟨rfl,rfl,rfl,by decide +kernel,rfl,by decide +kernel,by decide +kernel⟩
theorem a9:List.Nodup (["one","other","step","row"]:List Str):=by decide +kernel
theorem ok_Z4 {P:Program}{w:World}{K:PySem.W.Frag}{mg:Str->Option Value}{base:Heap}{f:Addr}{fd:FuncData}{z:Addr}{R:FuncData}{M:Addr}{Y:FuncData}{L:Addr}{U:FuncData}{O:Addr}{Z:FuncData}(Fn:Fun K "_law_kept_right" "_law_kept_right" s_Z4 f fd)(I:FnOk P w K mg base CX0 5 z R ["row","step","many"] (spR K 3 m_Z13))(b_Z13:Binds K R ["row","step","many"] [])(k_Z13:PySem.W.keepIn K (.ref z)=true)(G:mg "fewest_turns"=some (.ref z))(a7:FnOk P w K mg base CX0 2 M Y ["row","places"] (spR K 2 m_Z5))(b_Z5:Binds K Y ["row","places"] [])(k_Z5:PySem.W.keepIn K (.ref M)=true)(a5:mg "how_many_turns"=some (.ref M))(a6:FnOk P w K mg base CX0 4 L U ["row","step"] (spR K 2 m_Z9))(b_Z9:Binds K U ["row","step"] [])(k_Z9:PySem.W.keepIn K (.ref L)=true)(a4:mg "kept_by_turns"=some (.ref L))(a1:FnOk P w K mg base CX0 4 O Z ["row","step","turns"] (spR K 3 m_Z1))(b_Z1:Binds K Z ["row","step","turns"] [])(k_Z1:PySem.W.keepIn K (.ref O)=true)(a0:mg "longest_turning"=some (.ref O))(a3:mg "abs"=none)(j:mg "enumerate"=none)(q:mg "len"=none)(J:mg "sorted"=none)(a2:mg "zip"=none):FnOk P w K mg base CX0 6 f fd ["row","step"] (spR K 2 m_Z4):=
 Fn.okD (k:=5) (m:=b_Z4) sc_Z4 fun cdv A outer s H E S=>(y4 (n4 (i:=2) sc_Z4.nd rfl (by first|exact Or.inl rfl|exact Or.inr rfl) (w8 (fun t ha=>x9 (a6.mono (by decide)) S rfl a4 k_Z9 b_Z9 .nil u7 ha) rfl (z0 (z6 0 (pv 0)) (z0 (z6 1 (pv 1)) z9)) (z7 (z7 x6)))) (y4 (m9 (pc_w (K3 (pc_eqB (op_neF S.units) (w4 2 (pv 2)) (N4 (pf_sorted rfl J (w4 2 (pv 2)) PyProof.Rows.boot_sorted)) (u6 _)) (L5 (t8 op_ne opd_neS (v5 rfl q (X8 (w8 (fun t ha=>x9 (a1.mono (by decide)) S rfl a0 k_Z1 b_Z1 .nil u7 ha) rfl (z0 (z6 0 (pv 0)) (z0 (z6 1 (pv 1)) (z0 (v5 rfl q (w4 0 (pv 0))) z9))) (z7 (z7 (z7 x6)))))) (l9 (w4 2 (pv 2)) (R8 y9)) (u6 _))))) (y8 (t7 T7)) u5) (y4 (c8 PassesOwn.never rfl (N6 rfl j (z0 (z6 2 (pv 2)) z9)) (b0 (is:=[3,4]) (V1 rfl (t6 (w6 (i:=3) sc_Z4.nd rfl (by first|exact Or.inl rfl|exact Or.inr rfl)) (t6 (w6 (i:=4) sc_Z4.nd rfl (by first|exact Or.inl rfl|exact Or.inr rfl)) c9)))) (y4 (n4 (i:=5) sc_Z4.nd rfl (by first|exact Or.inl rfl|exact Or.inr rfl) (w8 (fun t ha=>x9 (a1.mono (by decide)) S rfl a0 k_Z1 b_Z1 .nil u7 ha) rfl (z0 (z6 0 (pv 0)) (z0 (z6 1 (pv 1)) (z0 (z6 3 (pv 3)) z9))) (z7 (z7 (z7 x6))))) (y4 (m9 (pc_w (K3 (t8 op_ne opd_neS (v5 rfl q (w4 5 (pv 5))) (z6 4 (pv 4)) (u6 _)) (L5 (t8 op_gt opd_gt (w8 (fun t ha=>x9 (a7.mono (by decide)) S rfl a5 k_Z5 b_Z5 .nil u7 ha) rfl (z0 (z6 0 (pv 0)) (z0 (z6 5 (pv 5)) z9)) (z7 (z7 x6))) (z6 3 (pv 3)) (u6 _))))) (y8 (t7 T7)) u5) (y4 (m9 (pc_eqB (op_neF S.units) (N4 (X7 (d6 (N:=["one","other","step","row"]) (src:=[none,none,some 1,some 0]) (y6 s_Z4) N_Z4 rfl rfl (by decide +kernel)) rfl (pid_zip2 rfl a2 (z0 (z6 5 (pv 5)) (z0 (k8 (pf_sl (w4 5 (pv 5)) (X6 y9) U3)) z9))) (fun C fp s0 H0=>(b0 (is:=[0,1]) (V1 rfl (t6 (w6 (i:=0) a9 rfl (by first|exact Or.inl rfl|exact Or.inr rfl)) (t6 (w6 (i:=1) a9 rfl (by first|exact Or.inl rfl|exact Or.inr rfl)) c9))))) (fun C fp s0 H0=>(R4 (pc_w (K3 (t8 F7 T2 (pd_abs rfl a3 (z0 (O4 (l9 (w4 3 (pv 3)) (z6 0 (pv 0))) (l9 (w4 3 (pv 3)) (z6 1 (pv 1)))) z9)) (z6 2 (pv 2)) (u6 _)) (L5 (t8 op_le opd_le (z6 1 (pv 1)) (z6 0 (pv 0)) (u6 _))))))) (fun C fp s0 H0=>y9))) (N4 (p7 z9)) (u6 _)) (y8 (t7 T7)) u5) (y8 (m9 (pc_w (pcw_and (t8 op_gt opd_gt (z6 4 (pv 4)) y9 (u6 _)) (pw1_and (t8 op_ne opd_neS (w8 (fun t ha=>x9 (I.mono (by decide)) S rfl G k_Z13 b_Z13 .nil u7 ha) rfl (z0 (z6 0 (pv 0)) (z0 (z6 1 (pv 1)) (z0 (z6 4 (pv 4)) z9))) (z7 (z7 (z7 x6)))) (pd_indexI (w4 2 (pv 2)) (z6 4 (pv 4)) (fun t ha=>pe_bm PySem.F.plainAttrs_list PySem.F.slot_list_index PySem.F.type_list_index mt_indexI (w4 2 (pv 2)) ha)) (u6 _))))) (y8 (t7 T7)) u5)))))) (y8 (t7 (pd_and (pd_cmp op_isN opd_isN (w8 (fun t ha=>x9 (I.mono (by decide)) S rfl G k_Z13 b_Z13 .nil u7 ha) rfl (z0 (z6 0 (pv 0)) (z0 (z6 1 (pv 1)) (z0 (k6 (l9 (w4 2 (pv 2)) (R8 y9)) y9) z9))) (z7 (z7 (z7 x6)))) pd_non (u6 _)) (pd_one (pd_cmp op_eq V4 (w8 (fun t ha=>x9 (I.mono (by decide)) S rfl G k_Z13 b_Z13 .nil u7 ha) rfl (z0 (z6 0 (pv 0)) (z0 (z6 1 (pv 1)) (z0 y9 z9))) (z7 (z7 (z7 x6)))) y9 (u6 _)))))))))
noncomputable abbrev s_Z3:Stmt:=top 32
noncomputable abbrev N_Z3:List Str:=["row","step","most","kept","turns","few"]
theorem sc_Z3:FnScope N_Z3 ["row","step"] (y6 s_Z3):=⟨rfl,rfl,rfl,by decide +kernel,rfl,by decide +kernel,by decide +kernel⟩
theorem ok_Z3 {P:Program}{w:World}{K:PySem.W.Frag}{mg:Str->Option Value}{base:Heap}{f:Addr}{fd:FuncData}{q:Addr}{L:FuncData}{I:Addr}{N:FuncData}{G:Addr}{M:FuncData}{j:Addr}{J:FuncData}(Fn:Fun K "_law_waves_right" "_law_waves_right" s_Z3 f fd)(a0:FnOk P w K mg base CX0 4 q L ["row","step"] (spR K 2 m_Z21))(b_Z21:Binds K L ["row","step"] [])(k_Z21:PySem.W.keepIn K (.ref q)=true)(Y:mg "how_long"=some (.ref q))(a4:FnOk P w K mg base CX0 2 I N ["row","places"] (spR K 2 m_Z5))(b_Z5:Binds K N ["row","places"] [])(k_Z5:PySem.W.keepIn K (.ref I)=true)(a2:mg "how_many_turns"=some (.ref I))(a3:FnOk P w K mg base CX0 4 G M ["row","step"] (spR K 2 m_Z9))(b_Z9:Binds K M ["row","step"] [])(k_Z9:PySem.W.keepIn K (.ref G)=true)(a1:mg "kept_by_turns"=some (.ref G))(Z:FnOk P w K mg base CX0 3 j J ["row","step"] (spR K 2 m_Z22))(b_Z22:Binds K J ["row","step"] [])(k_Z22:PySem.W.keepIn K (.ref j)=true)(U:mg "longest"=some (.ref j))(S:mg "len"=none)(R:mg "max"=none)(O:mg "min"=none)(z:mg "range"=none):FnOk P w K mg base CX0 5 f fd ["row","step"] (spR K 2 m_Z3):=
 Fn.okD (k:=4) (m:=b_Z3) sc_Z3 fun cdv A outer s H E hr=>(y4 (n4 (i:=2) sc_Z3.nd rfl (by first|exact Or.inl rfl|exact Or.inr rfl) (w8 (fun t ha=>x9 (a0.mono (by decide)) hr rfl Y k_Z21 b_Z21 .nil u7 ha) rfl (z0 (z6 0 (pv 0)) (z0 (z6 1 (pv 1)) z9)) (z7 (z7 x6)))) (y4 (n4 (i:=3) sc_Z3.nd rfl (by first|exact Or.inl rfl|exact Or.inr rfl) (w8 (fun t ha=>x9 (a3.mono (by decide)) hr rfl a1 k_Z9 b_Z9 .nil u7 ha) rfl (z0 (z6 0 (pv 0)) (z0 (z6 1 (pv 1)) z9)) (z7 (z7 x6)))) (y4 (n4 (i:=4) sc_Z3.nd rfl (by first|exact Or.inl rfl|exact Or.inr rfl) (pd_max2 rfl rfl R (z0 y9 (z0 (O4 (z6 2 (pv 2)) y9) z9)))) (y4 (m9 (pc_w (K3 (t8 F7 T2 (l9 (N4 (pf_cat (w4 3 (pv 3)) (N4 (R7 (p7 (z0 (l9 (w4 3 (pv 3)) (R8 y9)) z9)) (z6 4 (pv 4)))))) (z6 4 (pv 4))) (z6 2 (pv 2)) (u6 _)) (L5 (t8 op_ne opd_neS (w8 (fun t ha=>x9 (a4.mono (by decide)) hr rfl a2 k_Z5 b_Z5 .nil u7 ha) rfl (z0 (z6 0 (pv 0)) (z0 (w8 (fun t ha=>x9 (Z.mono (by decide)) hr rfl U k_Z22 b_Z22 .nil u7 ha) rfl (z0 (z6 0 (pv 0)) (z0 (z6 1 (pv 1)) z9)) (z7 (z7 x6))) z9)) (z7 (z7 x6))) (z6 4 (pv 4)) (u6 _))))) (y8 (t7 T7)) u5) (y4 (c8 PassesOwn.never rfl (Y5 rfl z (z0 (K2 rfl rfl O (z0 (v5 rfl S (w4 3 (pv 3))) (z0 (z6 4 (pv 4)) z9))) z9)) (p4 (i:=5) (w6 sc_Z3.nd rfl (by first|exact Or.inl rfl|exact Or.inr rfl))) (y8 (m9 (t8 F7 T2 (l9 (w4 3 (pv 3)) (z6 5 (pv 5))) (k6 (z6 5 (pv 5)) y9) (u6 _)) (y8 (t7 T7)) u5))) (y8 (t7 T7)))))))
noncomputable abbrev s_Z0:Stmt:=top 33
noncomputable abbrev N_Z0:List Str:=["pot","row","step","turns","told","more","times","longer"]
theorem sc_Z0:FnScope N_Z0 ["pot","row","step"] (y6 s_Z0):=⟨rfl,rfl,rfl,by decide +kernel,rfl,by decide +kernel,by decide +kernel⟩
theorem Y9:List.Nodup (["number"]:List Str):=by decide +kernel
theorem Y8:List.Nodup (["number","more","times"]:List Str):=by decide +kernel
theorem ok_Z0 {P:Program}{w:World}{K:PySem.W.Frag}{mg:Str->Option Value}{base:Heap}{f:Addr}{fd:FuncData}{G:Addr}{R:FuncData}{M:Addr}{S:FuncData}{O:Addr}{U:FuncData}(Fn:Fun K "_law_otherwise_right" "_law_otherwise_right" s_Z0 f fd)(q:FnOk P w K mg base CX0 1 G R ["pot","many"] (spG K 2 h9))(b_Z20:Binds K R ["pot","many"] [])(k_Z20:PySem.W.keepIn K (.ref G)=true)(j:mg "_law_next"=some (.ref G))(Z:FnOk P w K mg base CX0 4 M S ["row","step"] (spR K 2 m_Z9))(b_Z9:Binds K S ["row","step"] [])(k_Z9:PySem.W.keepIn K (.ref M)=true)(Y:mg "kept_by_turns"=some (.ref M))(J:FnOk P w K mg base CX0 4 O U ["row","step","turns"] (spR K 3 m_Z1))(b_Z1:Binds K U ["row","step","turns"] [])(k_Z1:PySem.W.keepIn K (.ref O)=true)(I:mg "longest_turning"=some (.ref O))(z:mg "len"=none):FnOk P w K mg base CX0 5 f fd ["pot","row","step"] (spG K 3 m_Z0):=
 Fn.okGl (k:=4) (m:=b_Z0) sc_Z0 (by decide) fun cdv A outer s H E L=>(y4 (Z7 (i:=3) sc_Z0.nd rfl (by first|exact Or.inl rfl|exact Or.inr rfl) (u9 (i:=0) (fun t ha=>x9 (q.mono (by decide)) L rfl j k_Z20 b_Z20 .nil u7 ha) rfl (pv 0) (t4 (z0 y9 z9)) (n9 (z7 x6)))) (y4 (n4 (i:=4) sc_Z0.nd rfl (by first|exact Or.inl rfl|exact Or.inr rfl) (w8 (fun t ha=>x9 (J.mono (by decide)) L rfl I k_Z1 b_Z1 .nil u7 ha) rfl (z0 (z6 1 (pv 1)) (z0 (z6 2 (pv 2)) (z0 (z6 3 (pv 3)) z9))) (z7 (z7 (z7 x6))))) (y4 (Z7 (i:=5) sc_Z0.nd rfl (by first|exact Or.inl rfl|exact Or.inr rfl) (T1 op_sub K4 (u9 (i:=0) (fun t ha=>x9 (q.mono (by decide)) L rfl j k_Z20 b_Z20 .nil u7 ha) rfl (pv 0) (t4 (z0 y9 z9)) (n9 (z7 x6))) (p5 y9))) (y4 (Z7 (i:=6) sc_Z0.nd rfl (by first|exact Or.inl rfl|exact Or.inr rfl) (T1 (OpR.or D2 T8) P6 (p5 y9) (u9 (i:=0) (fun t ha=>x9 (q.mono (by decide)) L rfl j k_Z20 b_Z20 .nil u7 ha) rfl (pv 0) (t4 (z0 y9 z9)) (n9 (z7 x6))))) (y4 (m9 (pc_eqB (op_neF L.units) (X8 (w8 (fun t ha=>x9 (J.mono (by decide)) L rfl I k_Z1 b_Z1 .nil u7 ha) rfl (z0 (k8 (X7 (d6 (N:=["number"]) (src:=[none]) (y6 s_Z0) N_Z0 rfl rfl (by decide +kernel)) rfl (T6 (z6 1 (pv 1))) (fun C fp s0 H0=>(p4 (i:=0) (w6 Y9 rfl (by first|exact Or.inl rfl|exact Or.inr rfl)))) (fun C fp s0 H0=>g8) (fun C fp s0 H0=>(O4 y9 (z6 0 (pv 0)))))) (z0 (z6 2 (pv 2)) (z0 (z6 3 (pv 3)) z9))) (z7 (z7 (z7 x6))))) (w4 4 (pv 4)) (u6 _)) (y8 (j5 0 (p5 T7))) u5) (y4 (m9 (pc_eqB (op_neF L.units) (X8 (w8 (fun t ha=>x9 (J.mono (by decide)) L rfl I k_Z1 b_Z1 .nil u7 ha) rfl (z0 (k8 (X7 (d6 (N:=["number","more","times"]) (src:=[none,some 5,some 6]) (y6 s_Z0) N_Z0 rfl rfl (by decide +kernel)) rfl (T6 (z6 1 (pv 1))) (fun C fp s0 H0=>(p4 (i:=0) (w6 Y8 rfl (by first|exact Or.inl rfl|exact Or.inr rfl)))) (fun C fp s0 H0=>g8) (fun C fp s0 H0=>(k6 (K0 (z6 2 (pv 2)) (z6 0 (pv 0))) (z6 1 (pv 1)))))) (z0 (K0 (z6 6 (pv 6)) (z6 2 (pv 2))) (z0 (z6 3 (pv 3)) z9))) (z7 (z7 (z7 x6))))) (w4 4 (pv 4)) (u6 _)) (y8 (j5 0 (p5 T7))) u5) (y4 (m9 (pc_eqB (op_neF L.units) (X8 (w8 (fun t ha=>x9 (Z.mono (by decide)) L rfl Y k_Z9 b_Z9 .nil u7 ha) rfl (z0 (k8 (pf_rev (w4 1 (pv 1)) (X6 (R8 y9)))) (z0 (z6 2 (pv 2)) z9)) (z7 (z7 x6)))) (X8 (w8 (fun t ha=>x9 (Z.mono (by decide)) L rfl Y k_Z9 b_Z9 .nil u7 ha) rfl (z0 (z6 1 (pv 1)) (z0 (z6 2 (pv 2)) z9)) (z7 (z7 x6)))) (u6 _)) (y8 (j5 0 (p5 T7))) u5) (y4 (Z7 (i:=7) sc_Z0.nd rfl (by first|exact Or.inl rfl|exact Or.inr rfl) (pdm_call (fun t ha=>x9 (J.mono (by decide)) L rfl I k_Z1 b_Z1 .nil u7 ha) rfl (Y0 (T1 (OpR.or D2 T8) P6 (p5 (z6 1 (pv 1))) (pdm_lst (Y0 (T1 op_sub K4 (u9 (i:=0) (fun t ha=>x9 (q.mono (by decide)) L rfl j k_Z20 b_Z20 .nil u7 ha) rfl (pv 0) (t4 (z0 y9 z9)) (n9 (z7 x6))) (p5 y9)) (t4 z9)))) (t4 (z0 (z6 2 (pv 2)) (z0 (z6 3 (pv 3)) z9)))) (C2 (n9 (z7 (z7 x6)))))) (y8 (j5 0 (p5 (pd_chain op_le opd_le op_le opd_le (v5 rfl z (w4 4 (pv 4))) (v5 rfl z (w4 7 (pv 7))) (k6 (v5 rfl z (w4 4 (pv 4))) y9)))))))))))))
noncomputable abbrev G9:Stmt:=top 34
noncomputable abbrev N_Z24:List Str:=["script","pot","row","step"]
theorem sc_Z24:FnScope N_Z24 ["script"] (y6 G9):=⟨rfl,rfl,rfl,by decide +kernel,rfl,by decide +kernel,by decide +kernel⟩
theorem nd_law_0:List.Nodup (["number"]:List Str):=by decide +kernel
theorem ok_Z24 {P:Program}{w:World}{K:PySem.W.Frag}{mg:Str->Option Value}{base:Heap}{f:Addr}{fd:FuncData}{M:Addr}{Y:FuncData}{R:Addr}{a0:FuncData}{j:Addr}{q:FuncData}{J:Addr}{S:FuncData}{L:Addr}{U:FuncData}{O:Addr}{Z:FuncData}(Fn:Fun K "law" "law" G9 f fd)(a9:FnOk P w K mg base CX0 6 M Y ["row","step"] (spR K 2 m_Z4))(b_Z4:Binds K Y ["row","step"] [])(k_Z4:PySem.W.keepIn K (.ref M)=true)(a5:mg "_law_kept_right"=some (.ref M))(ab:FnOk P w K mg base CX0 5 R a0 ["pot","row","step"] (spG K 3 m_Z0))(b_Z0:Binds K a0 ["pot","row","step"] [])(k_Z0:PySem.W.keepIn K (.ref R)=true)(a7:mg "_law_otherwise_right"=some (.ref R))(I:FnOk P w K mg base CX0 1 j q ["script"] (spP K 1 X0))(z:Binds K q ["script"] [])(k_law_pots:PySem.W.keepIn K (.ref j)=true)(G:mg "_law_pots"=some (.ref j))(a3:FnOk P w K mg base CX0 3 J S ["pot","most"] (spG K 2 m_Z14))(b_Z14:Binds K S ["pot","most"] [])(k_Z14:PySem.W.keepIn K (.ref J)=true)(a2:mg "_law_some_row"=some (.ref J))(a8:FnOk P w K mg base CX0 2 L U ["pot"] (spG K 1 m_Z8))(b_Z8:Binds K U ["pot"] [])(k_Z8:PySem.W.keepIn K (.ref L)=true)(a4:mg "_law_some_step"=some (.ref L))(aa:FnOk P w K mg base CX0 5 O Z ["row","step"] (spR K 2 m_Z3))(b_Z3:Binds K Z ["row","step"] [])(k_Z3:PySem.W.keepIn K (.ref O)=true)(a6:mg "_law_waves_right"=some (.ref O))(a1:mg "min"=none):FnOk P w K mg base CX0 7 f fd ["script"] (spR K 1 m_Z24):=
 Fn.okD (k:=6) (m:=b_Z24) sc_Z24 fun cdv A outer s H E hr=>(y4 (psd_forP PassesOwn.never rfl (pp_call (fun t ha=>x9 (I.mono (by decide)) hr rfl G k_law_pots z .nil u7 ha) rfl (z0 (k8 (pf_sl (w4 0 (pv 0)) U3 (X6 y9))) z9) (z7 x6)) (w6 (i:=1) sc_Z24.nd rfl (by first|exact Or.inl rfl|exact Or.inr rfl)) (y4 (psd_setCmI (L7 (i:=2) sc_Z24.nd rfl (by first|exact Or.inl rfl|exact Or.inr rfl) (d6 (N:=["number"]) (src:=[none]) (y6 G9) N_Z24 rfl rfl (by decide +kernel)) rfl (pi_list (u9 (i:=1) (fun t ha=>x9 (a3.mono (by decide)) hr rfl a2 k_Z14 b_Z14 .nil u7 ha) rfl (pv 1) (t4 (z0 y9 z9)) (n9 (z7 x6)))) (fun C fp s0 H0=>(p4 (i:=0) (w6 nd_law_0 rfl (by first|exact Or.inl rfl|exact Or.inr rfl)))) (fun C fp s0 H0=>g8) (fun C fp s0 H0=>(K1 (z6 0 (pv 0)) (pd_pow y9 y9))))) (y4 (Z7 (i:=3) sc_Z24.nd rfl (by first|exact Or.inl rfl|exact Or.inr rfl) (pdm_min2 rfl rfl a1 (Y0 (u9 (i:=1) (fun t ha=>x9 (a8.mono (by decide)) hr rfl a4 k_Z8 b_Z8 .nil u7 ha) rfl (pv 1) (t4 z9) (n9 x6)) (t4 (z0 (pd_pow y9 y9) z9))))) (y4 (m9 (pc_w (K3 (pc_not (pc_tru (w8 (fun t ha=>x9 (a9.mono (by decide)) hr rfl a5 k_Z4 b_Z4 .nil u7 ha) rfl (z0 (z6 2 (pv 2)) (z0 (z6 3 (pv 3)) z9)) (z7 (z7 x6))))) (L5 (pc_not (pc_tru (w8 (fun t ha=>x9 (aa.mono (by decide)) hr rfl a6 k_Z3 b_Z3 .nil u7 ha) rfl (z0 (z6 2 (pv 2)) (z0 (z6 3 (pv 3)) z9)) (z7 (z7 x6)))))))) (y8 (t7 T7)) u5) (y8 (psd_ifm (pcm_not (pcm_bool (u9 (i:=1) (fun t ha=>x9 (ab.mono (by decide)) hr rfl a7 k_Z0 b_Z0 .nil u7 ha) rfl (pv 1) (t4 (z0 (z6 2 (pv 2)) (z0 (z6 3 (pv 3)) z9))) (n9 (z7 (z7 x6)))))) (y8 (t7 T7)) u5)))))) (y8 (t7 T7)))
theorem all_mk {l:PySem.W.OpenLaw}{w:World}{K:PySem.W.Frag}{h:Heap}{mg:Str->Option Value}{fa ak al aj ah bk ad ap ae af bj bi ai aq bo ao bg an ag L bn am bh bl bm bp ac:Addr}(X:K.In h)(G:h.Ns mainGlobals mg)(jv:mg "law"=some (.ref fa)){ep ea:Option Addr}{cz:Array (Option Value)}{du f5 fl dd b6 g0:Value}{eq eb:Option Addr}{d0:Array (Option Value)}{dv f6 fm de b7 g1:Value}{eo e9:Option Addr}{cy:Array (Option Value)}{dt f4 fk dc b5 fz:Value}{em e7:Option Addr}{cw:Array (Option Value)}{dq f2 fi da b3 fx:Value}{i1 hr:Option Addr}{gs:Array (Option Value)}{hf ib io h4 bu iy:Value}{ei e2:Option Addr}{cs:Array (Option Value)}{dl ey fe d6 az ft:Value}{ev ef:Option Addr}{d4:Array (Option Value)}{e0 fb fq di bb g5:Value}{ej e4:Option Addr}{ct:Array (Option Value)}{dm ez ff d7 b0 fu:Value}{ek e5:Option Addr}{cu:Array (Option Value)}{dn f0 fg d8 b1 fv:Value}{i0 hq:Option Addr}{gr:Array (Option Value)}{he ia im h3 bt ix:Value}{hz hp:Option Addr}{gq:Array (Option Value)}{hd i9 il h0 bs iw:Value}{en e8:Option Addr}{cx:Array (Option Value)}{dr f3 fj db b4 fy:Value}{ew eg:Option Addr}{d5:Array (Option Value)}{e1 fc fr dj bc g6:Value}{i5 hv:Option Addr}{gw:Array (Option Value)}{hk ih is h9 bz j2:Value}{eu ee:Option Addr}{d3:Array (Option Value)}{dz f9 fp dh ba g4:Value}{hx hn:Option Addr}{go:Array (Option Value)}{hb i7 ij gy bq iu:Value}{et ed:Option Addr}{d2:Array (Option Value)}{dy f8 fo dg b9 g3:Value}{el e6:Option Addr}{cv:Array (Option Value)}{dp f1 fh d9 b2 fw:Value}{a0 Z:Option Addr}{S:Array (Option Value)}{Y a1 a2 U M a3:Value}{i4 hu:Option Addr}{gv:Array (Option Value)}{hj ig ir h8 bx j1:Value}{er ec:Option Addr}{d1:Array (Option Value)}{dw f7 fn df b8 g2:Value}{hy ho:Option Addr}{gp:Array (Option Value)}{hc i8 ik gz br iv:Value}{i2 hs:Option Addr}{gt:Array (Option Value)}{hg ic ip h5 bv iz:Value}{i3 ht:Option Addr}{gu:Array (Option Value)}{hh ie iq h7 bw j0:Value}{i6 hw:Option Addr}{gx:Array (Option Value)}{hm ii it ha c0 j3:Value}{eh av:Option Addr}{cr:Array (Option Value)}{dk aw ax au a4 ay:Value}
  (e_Z16:PySem.W.nsIn K mainGlobals "refuse_step"=some (some (.ref ak))) (l_Z16:K.lookup ak=some ⟨du,ep,.func (PySem.W.fnOf "refuse_step" "refuse_step" (u8 s_Z16) (v7 s_Z16) (y6 s_Z16) .none f5 fl dd ea b6 g0),cz⟩) (c_Z16:PySem.W.codeIn K b6 "refuse_step"=true) (k_Z16:PySem.W.keepIn K (.ref ak)=true)
  (e_Z15:PySem.W.nsIn K mainGlobals "later_steps"=some (some (.ref al))) (l_Z15:K.lookup al=some ⟨dv,eq,.func (PySem.W.fnOf "later_steps" "later_steps" (u8 F6) (v7 F6) (y6 F6) .none f6 fm de eb b7 g1),d0⟩) (c_Z15:PySem.W.codeIn K b7 "later_steps"=true) (k_Z15:PySem.W.keepIn K (.ref al)=true)
  (e_Z17:PySem.W.nsIn K mainGlobals "are_places"=some (some (.ref aj))) (l_Z17:K.lookup aj=some ⟨dt,eo,.func (PySem.W.fnOf "are_places" "are_places" (u8 s_Z17) (v7 s_Z17) (y6 s_Z17) .none f4 fk dc e9 b5 fz),cy⟩) (c_Z17:PySem.W.codeIn K b5 "are_places"=true) (k_Z17:PySem.W.keepIn K (.ref aj)=true)
  (e_Z19:PySem.W.nsIn K mainGlobals "turns_of"=some (some (.ref ah))) (l_Z19:K.lookup ah=some ⟨dq,em,.func (PySem.W.fnOf "turns_of" "turns_of" (u8 s_Z19) (v7 s_Z19) (y6 s_Z19) .none f2 fi da e7 b3 fx),cw⟩) (c_Z19:PySem.W.codeIn K b3 "turns_of"=true) (k_Z19:PySem.W.keepIn K (.ref ah)=true)
  (e_Z5:PySem.W.nsIn K mainGlobals "how_many_turns"=some (some (.ref bk))) (l_Z5:K.lookup bk=some ⟨hf,i1,.func (PySem.W.fnOf "how_many_turns" "how_many_turns" (u8 s_Z5) (v7 s_Z5) (y6 s_Z5) .none ib io h4 hr bu iy),gs⟩) (c_Z5:PySem.W.codeIn K bu "how_many_turns"=true) (k_Z5:PySem.W.keepIn K (.ref bk)=true)
  (e_Z23:PySem.W.nsIn K mainGlobals "tails"=some (some (.ref ad))) (l_Z23:K.lookup ad=some ⟨dl,ei,.func (PySem.W.fnOf "tails" "tails" (u8 s_Z23) (v7 s_Z23) (y6 s_Z23) .none ey fe d6 e2 az ft),cs⟩) (c_Z23:PySem.W.codeIn K az "tails"=true) (k_Z23:PySem.W.keepIn K (.ref ad)=true)
  (e_Z11:PySem.W.nsIn K mainGlobals "longer_first"=some (some (.ref ap))) (l_Z11:K.lookup ap=some ⟨e0,ev,.func (PySem.W.fnOf "longer_first" "longer_first" (u8 s_Z11) (v7 s_Z11) (y6 s_Z11) .none fb fq di ef bb g5),d4⟩) (c_Z11:PySem.W.codeIn K bb "longer_first"=true) (k_Z11:PySem.W.keepIn K (.ref ap)=true)
  (e_Z22:PySem.W.nsIn K mainGlobals "longest"=some (some (.ref ae))) (l_Z22:K.lookup ae=some ⟨dm,ej,.func (PySem.W.fnOf "longest" "longest" (u8 s_Z22) (v7 s_Z22) (y6 s_Z22) .none ez ff d7 e4 b0 fu),ct⟩) (c_Z22:PySem.W.codeIn K b0 "longest"=true) (k_Z22:PySem.W.keepIn K (.ref ae)=true)
  (e_Z21:PySem.W.nsIn K mainGlobals "how_long"=some (some (.ref af))) (l_Z21:K.lookup af=some ⟨dn,ek,.func (PySem.W.fnOf "how_long" "how_long" (u8 s_Z21) (v7 s_Z21) (y6 s_Z21) .none f0 fg d8 e5 b1 fv),cu⟩) (c_Z21:PySem.W.codeIn K b1 "how_long"=true) (k_Z21:PySem.W.keepIn K (.ref af)=true)
  (e_Z6:PySem.W.nsIn K mainGlobals "longest_behind"=some (some (.ref bj))) (l_Z6:K.lookup bj=some ⟨he,i0,.func (PySem.W.fnOf "longest_behind" "longest_behind" (u8 s_Z6) (v7 s_Z6) (y6 s_Z6) .none ia im h3 hq bt ix),gr⟩) (c_Z6:PySem.W.codeIn K bt "longest_behind"=true) (k_Z6:PySem.W.keepIn K (.ref bj)=true)
  (e_Z7:PySem.W.nsIn K mainGlobals "one_turn_more"=some (some (.ref bi))) (l_Z7:K.lookup bi=some ⟨hd,hz,.func (PySem.W.fnOf "one_turn_more" "one_turn_more" (u8 s_Z7) (v7 s_Z7) (y6 s_Z7) .none i9 il h0 hp bs iw),gq⟩) (c_Z7:PySem.W.codeIn K bs "one_turn_more"=true) (k_Z7:PySem.W.keepIn K (.ref bi)=true)
  (e_Z18:PySem.W.nsIn K mainGlobals "no_tails"=some (some (.ref ai))) (l_Z18:K.lookup ai=some ⟨dr,en,.func (PySem.W.fnOf "no_tails" "no_tails" (u8 s_Z18) (v7 s_Z18) (y6 s_Z18) .none f3 fj db e8 b4 fy),cx⟩) (c_Z18:PySem.W.codeIn K b4 "no_tails"=true) (k_Z18:PySem.W.keepIn K (.ref ai)=true)
  (e_Z10:PySem.W.nsIn K mainGlobals "longest_tail"=some (some (.ref aq))) (l_Z10:K.lookup aq=some ⟨e1,ew,.func (PySem.W.fnOf "longest_tail" "longest_tail" (u8 s_Z10) (v7 s_Z10) (y6 s_Z10) .none fc fr dj eg bc g6),d5⟩) (c_Z10:PySem.W.codeIn K bc "longest_tail"=true) (k_Z10:PySem.W.keepIn K (.ref aq)=true)
  (e_Z1:PySem.W.nsIn K mainGlobals "longest_turning"=some (some (.ref bo))) (l_Z1:K.lookup bo=some ⟨hk,i5,.func (PySem.W.fnOf "longest_turning" "longest_turning" (u8 s_Z1) (v7 s_Z1) (y6 s_Z1) .none ih is h9 hv bz j2),gw⟩) (c_Z1:PySem.W.codeIn K bz "longest_turning"=true) (k_Z1:PySem.W.keepIn K (.ref bo)=true)
  (e_Z12:PySem.W.nsIn K mainGlobals "most_stepped"=some (some (.ref ao))) (l_Z12:K.lookup ao=some ⟨dz,eu,.func (PySem.W.fnOf "most_stepped" "most_stepped" (u8 s_Z12) (v7 s_Z12) (y6 s_Z12) .none f9 fp dh ee ba g4),d3⟩) (c_Z12:PySem.W.codeIn K ba "most_stepped"=true) (k_Z12:PySem.W.keepIn K (.ref ao)=true)
  (e_Z9:PySem.W.nsIn K mainGlobals "kept_by_turns"=some (some (.ref bg))) (l_Z9:K.lookup bg=some ⟨hb,hx,.func (PySem.W.fnOf "kept_by_turns" "kept_by_turns" (u8 s_Z9) (v7 s_Z9) (y6 s_Z9) .none i7 ij gy hn bq iu),go⟩) (c_Z9:PySem.W.codeIn K bq "kept_by_turns"=true) (k_Z9:PySem.W.keepIn K (.ref bg)=true)
  (e_Z13:PySem.W.nsIn K mainGlobals "fewest_turns"=some (some (.ref an))) (l_Z13:K.lookup an=some ⟨dy,et,.func (PySem.W.fnOf "fewest_turns" "fewest_turns" (u8 s_Z13) (v7 s_Z13) (y6 s_Z13) .none f8 fo dg ed b9 g3),d2⟩) (c_Z13:PySem.W.codeIn K b9 "fewest_turns"=true) (k_Z13:PySem.W.keepIn K (.ref an)=true)
  (e_Z20:PySem.W.nsIn K mainGlobals "_law_next"=some (some (.ref ag))) (l_Z20:K.lookup ag=some ⟨dp,el,.func (PySem.W.fnOf "_law_next" "_law_next" (u8 s_Z20) (v7 s_Z20) (y6 s_Z20) .none f1 fh d9 e6 b2 fw),cv⟩) (c_Z20:PySem.W.codeIn K b2 "_law_next"=true) (k_Z20:PySem.W.keepIn K (.ref ag)=true)
  (e_law_pots:PySem.W.nsIn K mainGlobals "_law_pots"=some (some (.ref L))) (l_law_pots:K.lookup L=some ⟨Y,a0,.func (PySem.W.fnOf "_law_pots" "_law_pots" (u8 h6) (v7 h6) (y6 h6) .none a1 a2 U Z M a3),S⟩) (c_law_pots:PySem.W.codeIn K M "_law_pots"=true) (k_law_pots:PySem.W.keepIn K (.ref L)=true)
  (e_Z2:PySem.W.nsIn K mainGlobals "_law_some_number"=some (some (.ref bn))) (l_Z2:K.lookup bn=some ⟨hj,i4,.func (PySem.W.fnOf "_law_some_number" "_law_some_number" (u8 s_Z2) (v7 s_Z2) (y6 s_Z2) .none ig ir h8 hu bx j1),gv⟩) (c_Z2:PySem.W.codeIn K bx "_law_some_number"=true) (k_Z2:PySem.W.keepIn K (.ref bn)=true)
  (e_Z14:PySem.W.nsIn K mainGlobals "_law_some_row"=some (some (.ref am))) (l_Z14:K.lookup am=some ⟨dw,er,.func (PySem.W.fnOf "_law_some_row" "_law_some_row" (u8 s_Z14) (v7 s_Z14) (y6 s_Z14) .none f7 fn df ec b8 g2),d1⟩) (c_Z14:PySem.W.codeIn K b8 "_law_some_row"=true) (k_Z14:PySem.W.keepIn K (.ref am)=true)
  (e_Z8:PySem.W.nsIn K mainGlobals "_law_some_step"=some (some (.ref bh))) (l_Z8:K.lookup bh=some ⟨hc,hy,.func (PySem.W.fnOf "_law_some_step" "_law_some_step" (u8 s_Z8) (v7 s_Z8) (y6 s_Z8) .none i8 ik gz ho br iv),gp⟩) (c_Z8:PySem.W.codeIn K br "_law_some_step"=true) (k_Z8:PySem.W.keepIn K (.ref bh)=true)
  (e_Z4:PySem.W.nsIn K mainGlobals "_law_kept_right"=some (some (.ref bl))) (l_Z4:K.lookup bl=some ⟨hg,i2,.func (PySem.W.fnOf "_law_kept_right" "_law_kept_right" (u8 s_Z4) (v7 s_Z4) (y6 s_Z4) .none ic ip h5 hs bv iz),gt⟩) (c_Z4:PySem.W.codeIn K bv "_law_kept_right"=true) (k_Z4:PySem.W.keepIn K (.ref bl)=true)
  (e_Z3:PySem.W.nsIn K mainGlobals "_law_waves_right"=some (some (.ref bm))) (l_Z3:K.lookup bm=some ⟨hh,i3,.func (PySem.W.fnOf "_law_waves_right" "_law_waves_right" (u8 s_Z3) (v7 s_Z3) (y6 s_Z3) .none ie iq h7 ht bw j0),gu⟩) (c_Z3:PySem.W.codeIn K bw "_law_waves_right"=true) (k_Z3:PySem.W.keepIn K (.ref bm)=true)
  (e_Z0:PySem.W.nsIn K mainGlobals "_law_otherwise_right"=some (some (.ref bp))) (l_Z0:K.lookup bp=some ⟨hm,i6,.func (PySem.W.fnOf "_law_otherwise_right" "_law_otherwise_right" (u8 s_Z0) (v7 s_Z0) (y6 s_Z0) .none ii it ha hw c0 j3),gx⟩) (c_Z0:PySem.W.codeIn K c0 "_law_otherwise_right"=true) (k_Z0:PySem.W.keepIn K (.ref bp)=true)
  (e_Z24:PySem.W.nsIn K mainGlobals "law"=some (some (.ref ac))) (l_Z24:K.lookup ac=some ⟨dk,eh,.func (PySem.W.fnOf "law" "law" (u8 G9) (v7 G9) (y6 G9) .none aw ax au av a4 ay),cr⟩) (c_Z24:PySem.W.codeIn K a4 "law"=true) (k_Z24:PySem.W.keepIn K (.ref ac)=true)
  (y_abs:PySem.W.nsIn K mainGlobals "abs"=some none)
  (y_enumerate:PySem.W.nsIn K mainGlobals "enumerate"=some none)
  (y_len:PySem.W.nsIn K mainGlobals "len"=some none)
  (y_max:PySem.W.nsIn K mainGlobals "max"=some none)
  (y_min:PySem.W.nsIn K mainGlobals "min"=some none)
  (y_range:PySem.W.nsIn K mainGlobals "range"=some none)
  (y_reversed:PySem.W.nsIn K mainGlobals "reversed"=some none)
  (y_sorted:PySem.W.nsIn K mainGlobals "sorted"=some none)
  (y_zip:PySem.W.nsIn K mainGlobals "zip"=some none):
  ∃ fd:FuncData,(∀(s:Shared)(v:Value),BindsTo s fd ⟨[v],[]⟩ [("script",v)])/\∀ base:Heap,K.In base->base.Ns mainGlobals mg->FnOk l.prog w K mg base CX0 7 fa fd ["script"] (spR K 1 m_Z24):=by
 have e:=jv.symm.trans (PySem.W.mg_of X G e_Z24)
 cases e
 have ck:=l5 (st:=s_Z16) l_Z16 c_Z16 k_Z16
 have b_Z16:=ck.binds (ps:=["step"]) fun _ _ _ _ _ _ us j=>by refine us1 (P:=fun vs=>bindArgs _ { pos:=vs }=pure (List.zip _ vs)) ?_ us j;intros;rfl
 have a6:=PySem.W.mg_of X G e_Z16
 have cl:=l5 (st:=F6) l_Z15 c_Z15 k_Z15
 have b_Z15:=cl.binds (ps:=["row","step"]) fun _ _ _ _ _ _ us j=>by refine us2 (P:=fun vs=>bindArgs _ { pos:=vs }=pure (List.zip _ vs)) ?_ us j;intros;rfl
 have c3:=PySem.W.mg_of X G e_Z15
 have cj:=l5 (st:=s_Z17) l_Z17 c_Z17 k_Z17
 have b_Z17:=cj.binds (ps:=["row","places"]) fun _ _ _ _ _ _ us j=>by refine us2 (P:=fun vs=>bindArgs _ { pos:=vs }=pure (List.zip _ vs)) ?_ us j;intros;rfl
 have j7:=PySem.W.mg_of X G e_Z17
 have ch:=l5 (st:=s_Z19) l_Z19 c_Z19 k_Z19
 have b_Z19:=ch.binds (ps:=["numbers"]) fun _ _ _ _ _ _ us j=>by refine us1 (P:=fun vs=>bindArgs _ { pos:=vs }=pure (List.zip _ vs)) ?_ us j;intros;rfl
 have j6:=PySem.W.mg_of X G e_Z19
 have gh:=l5 (st:=s_Z5) l_Z5 c_Z5 k_Z5
 have b_Z5:=gh.binds (ps:=["row","places"]) fun _ _ _ _ _ _ us j=>by refine us2 (P:=fun vs=>bindArgs _ { pos:=vs }=pure (List.zip _ vs)) ?_ us j;intros;rfl
 have g8:=PySem.W.mg_of X G e_Z5
 have cd:=l5 (st:=s_Z23) l_Z23 c_Z23 k_Z23
 have b_Z23:=cd.binds (ps:=["row","step"]) fun _ _ _ _ _ _ us j=>by refine us2 (P:=fun vs=>bindArgs _ { pos:=vs }=pure (List.zip _ vs)) ?_ us j;intros;rfl
 have j4:=PySem.W.mg_of X G e_Z23
 have cp:=l5 (st:=s_Z11) l_Z11 c_Z11 k_Z11
 have b_Z11:=cp.binds (ps:=["places"]) fun _ _ _ _ _ _ us j=>by refine us1 (P:=fun vs=>bindArgs _ { pos:=vs }=pure (List.zip _ vs)) ?_ us j;intros;rfl
 have ar:=PySem.W.mg_of X G e_Z11
 have ce:=l5 (st:=s_Z22) l_Z22 c_Z22 k_Z22
 have b_Z22:=ce.binds (ps:=["row","step"]) fun _ _ _ _ _ _ us j=>by refine us2 (P:=fun vs=>bindArgs _ { pos:=vs }=pure (List.zip _ vs)) ?_ us j;intros;rfl
 have c1:=PySem.W.mg_of X G e_Z22
 have cf:=l5 (st:=s_Z21) l_Z21 c_Z21 k_Z21
 have b_Z21:=cf.binds (ps:=["row","step"]) fun _ _ _ _ _ _ us j=>by refine us2 (P:=fun vs=>bindArgs _ { pos:=vs }=pure (List.zip _ vs)) ?_ us j;intros;rfl
 have j5:=PySem.W.mg_of X G e_Z21
 have gg:=l5 (st:=s_Z6) l_Z6 c_Z6 k_Z6
 have b_Z6:=gg.binds (ps:=["tails","laters"]) fun _ _ _ _ _ _ us j=>by refine us2 (P:=fun vs=>bindArgs _ { pos:=vs }=pure (List.zip _ vs)) ?_ us j;intros;rfl
 have jk:=PySem.W.mg_of X G e_Z6
 have gf:=l5 (st:=s_Z7) l_Z7 c_Z7 k_Z7
 have b_Z7:=gf.binds (ps:=["steps","fewer"]) fun _ _ _ _ _ _ us j=>by refine us2 (P:=fun vs=>bindArgs _ { pos:=vs }=pure (List.zip _ vs)) ?_ us j;intros;rfl
 have g7:=PySem.W.mg_of X G e_Z7
 have ci:=l5 (st:=s_Z18) l_Z18 c_Z18 k_Z18
 have b_Z18:=ci.binds (ps:=["row"]) fun _ _ _ _ _ _ us j=>by refine us1 (P:=fun vs=>bindArgs _ { pos:=vs }=pure (List.zip _ vs)) ?_ us j;intros;rfl
 have c2:=PySem.W.mg_of X G e_Z18
 have cq:=l5 (st:=s_Z10) l_Z10 c_Z10 k_Z10
 have b_Z10:=cq.binds (ps:=["tails"]) fun _ _ _ _ _ _ us j=>by refine us1 (P:=fun vs=>bindArgs _ { pos:=vs }=pure (List.zip _ vs)) ?_ us j;intros;rfl
 have c4:=PySem.W.mg_of X G e_Z10
 have gl:=l5 (st:=s_Z1) l_Z1 c_Z1 k_Z1
 have b_Z1:=gl.binds (ps:=["row","step","turns"]) fun _ _ _ _ _ _ us j=>by refine us3 (P:=fun vs=>bindArgs _ { pos:=vs }=pure (List.zip _ vs)) ?_ us j;intros;rfl
 have g9:=PySem.W.mg_of X G e_Z1
 have co:=l5 (st:=s_Z12) l_Z12 c_Z12 k_Z12
 have b_Z12:=co.binds (ps:=["steps"]) fun _ _ _ _ _ _ us j=>by refine us1 (P:=fun vs=>bindArgs _ { pos:=vs }=pure (List.zip _ vs)) ?_ us j;intros;rfl
 have ja:=PySem.W.mg_of X G e_Z12
 have gd:=l5 (st:=s_Z9) l_Z9 c_Z9 k_Z9
 have b_Z9:=gd.binds (ps:=["row","step"]) fun _ _ _ _ _ _ us j=>by refine us2 (P:=fun vs=>bindArgs _ { pos:=vs }=pure (List.zip _ vs)) ?_ us j;intros;rfl
 have bd:=PySem.W.mg_of X G e_Z9
 have cn:=l5 (st:=s_Z13) l_Z13 c_Z13 k_Z13
 have b_Z13:=cn.binds (ps:=["row","step","many"]) fun _ _ _ _ _ _ us j=>by refine us3 (P:=fun vs=>bindArgs _ { pos:=vs }=pure (List.zip _ vs)) ?_ us j;intros;rfl
 have j9:=PySem.W.mg_of X G e_Z13
 have cg:=l5 (st:=s_Z20) l_Z20 c_Z20 k_Z20
 have b_Z20:=cg.binds (ps:=["pot","many"]) fun _ _ _ _ _ _ us j=>by refine us2 (P:=fun vs=>bindArgs _ { pos:=vs }=pure (List.zip _ vs)) ?_ us j;intros;rfl
 have a5:=PySem.W.mg_of X G e_Z20
 have N:=l5 (st:=h6) l_law_pots c_law_pots k_law_pots
 have a9:=N.binds (ps:=["script"]) fun _ _ _ _ _ _ us j=>by refine us1 (P:=fun vs=>bindArgs _ { pos:=vs }=pure (List.zip _ vs)) ?_ us j;intros;rfl
 have aa:=PySem.W.mg_of X G e_law_pots
 have gk:=l5 (st:=s_Z2) l_Z2 c_Z2 k_Z2
 have b_Z2:=gk.binds (ps:=["pot","kind"]) fun _ _ _ _ _ _ us j=>by refine us2 (P:=fun vs=>bindArgs _ { pos:=vs }=pure (List.zip _ vs)) ?_ us j;intros;rfl
 have jn:=PySem.W.mg_of X G e_Z2
 have cm:=l5 (st:=s_Z14) l_Z14 c_Z14 k_Z14
 have b_Z14:=cm.binds (ps:=["pot","most"]) fun _ _ _ _ _ _ us j=>by refine us2 (P:=fun vs=>bindArgs _ { pos:=vs }=pure (List.zip _ vs)) ?_ us j;intros;rfl
 have j8:=PySem.W.mg_of X G e_Z14
 have ge:=l5 (st:=s_Z8) l_Z8 c_Z8 k_Z8
 have b_Z8:=ge.binds (ps:=["pot"]) fun _ _ _ _ _ _ us j=>by refine us1 (P:=fun vs=>bindArgs _ { pos:=vs }=pure (List.zip _ vs)) ?_ us j;intros;rfl
 have jj:=PySem.W.mg_of X G e_Z8
 have gi:=l5 (st:=s_Z4) l_Z4 c_Z4 k_Z4
 have b_Z4:=gi.binds (ps:=["row","step"]) fun _ _ _ _ _ _ us j=>by refine us2 (P:=fun vs=>bindArgs _ { pos:=vs }=pure (List.zip _ vs)) ?_ us j;intros;rfl
 have jl:=PySem.W.mg_of X G e_Z4
 have gj:=l5 (st:=s_Z3) l_Z3 c_Z3 k_Z3
 have b_Z3:=gj.binds (ps:=["row","step"]) fun _ _ _ _ _ _ us j=>by refine us2 (P:=fun vs=>bindArgs _ { pos:=vs }=pure (List.zip _ vs)) ?_ us j;intros;rfl
 have jm:=PySem.W.mg_of X G e_Z3
 have gm:=l5 (st:=s_Z0) l_Z0 c_Z0 k_Z0
 have b_Z0:=gm.binds (ps:=["pot","row","step"]) fun _ _ _ _ _ _ us j=>by refine us3 (P:=fun vs=>bindArgs _ { pos:=vs }=pure (List.zip _ vs)) ?_ us j;intros;rfl
 have jo:=PySem.W.mg_of X G e_Z0
 have c9:=l5 (st:=G9) l_Z24 c_Z24 k_Z24
 have b_Z24:=c9.binds (ps:=["script"]) fun _ _ _ _ _ _ us j=>by refine us1 (P:=fun vs=>bindArgs _ { pos:=vs }=pure (List.zip _ vs)) ?_ us j;intros;rfl
 have jw:=PySem.W.mg_of X G e_Z24
 have gn:=PySem.W.mg_none_of X G y_abs
 have q:=PySem.W.mg_none_of X G y_enumerate
 have i:=PySem.W.mg_none_of X G y_len
 have R:=PySem.W.mg_none_of X G y_max
 have J:=PySem.W.mg_none_of X G y_min
 have z:=PySem.W.mg_none_of X G y_range
 have I:=PySem.W.mg_none_of X G y_reversed
 have O:=PySem.W.mg_none_of X G y_sorted
 have bf:=PySem.W.mg_none_of X G y_zip
 refine⟨PySem.W.fnOf "law" "law" (u8 G9) (v7 G9) (y6 G9) .none aw ax au av a4 ay,fun s v=>.of_eq rfl,fun base _ _=>?_⟩
 have a8:=ok_Z16 (P:=l.prog) (w:=w) (mg:=mg) (base:=base) ck
 have c7:=ok_Z15 (P:=l.prog) (w:=w) (mg:=mg) (base:=base) cl      q i z
 have jf:=ok_Z17 (P:=l.prog) (w:=w) (mg:=mg) (base:=base) cj      i
 have je:=ok_Z19 (P:=l.prog) (w:=w) (mg:=mg) (base:=base) ch      R J bf
 have gb:=ok_Z5 (P:=l.prog) (w:=w) (mg:=mg) (base:=base) gh jf b_Z17 k_Z17 j7 je b_Z19 k_Z19 j6
 have jc:=ok_Z23 (P:=l.prog) (w:=w) (mg:=mg) (base:=base) cd      i z I
 have as:=ok_Z11 (P:=l.prog) (w:=w) (mg:=mg) (base:=base) cp      i
 have c5:=ok_Z22 (P:=l.prog) (w:=w) (mg:=mg) (base:=base) ce as b_Z11 k_Z11 ar a8 b_Z16 k_Z16 a6 jc b_Z23 k_Z23 j4     J
 have jd:=ok_Z21 (P:=l.prog) (w:=w) (mg:=mg) (base:=base) cf c5 b_Z22 k_Z22 c1     i
 have jq:=ok_Z6 (P:=l.prog) (w:=w) (mg:=mg) (base:=base) gg      i R
 have ga:=ok_Z7 (P:=l.prog) (w:=w) (mg:=mg) (base:=base) gf as b_Z11 k_Z11 ar jq b_Z6 k_Z6 jk     i J z I
 have c6:=ok_Z18 (P:=l.prog) (w:=w) (mg:=mg) (base:=base) ci      i
 have c8:=ok_Z10 (P:=l.prog) (w:=w) (mg:=mg) (base:=base) cq as b_Z11 k_Z11 ar     J
 have gc:=ok_Z1 (P:=l.prog) (w:=w) (mg:=mg) (base:=base) gl c7 b_Z15 k_Z15 c3 c8 b_Z10 k_Z10 c4 c6 b_Z18 k_Z18 c2 ga b_Z7 k_Z7 g7 a8 b_Z16 k_Z16 a6     i J z
 have ji:=ok_Z12 (P:=l.prog) (w:=w) (mg:=mg) (base:=base) co      i R z I
 have be:=ok_Z9 (P:=l.prog) (w:=w) (mg:=mg) (base:=base) gd c7 b_Z15 k_Z15 c3 c8 b_Z10 k_Z10 c4 ji b_Z12 k_Z12 ja c6 b_Z18 k_Z18 c2 ga b_Z7 k_Z7 g7 a8 b_Z16 k_Z16 a6     i
 have jh:=ok_Z13 (P:=l.prog) (w:=w) (mg:=mg) (base:=base) cn be b_Z9 k_Z9 bd a8 b_Z16 k_Z16 a6     q
 have a7:=ok_Z20 (P:=l.prog) (w:=w) (mg:=mg) (base:=base) cg
 have ab:=ok_law_pots (P:=l.prog) (w:=w) (mg:=mg) (base:=base) N      i
 have jt:=ok_Z2 (P:=l.prog) (w:=w) (mg:=mg) (base:=base) gk a7 b_Z20 k_Z20 a5
 have jg:=ok_Z14 (P:=l.prog) (w:=w) (mg:=mg) (base:=base) cm a7 b_Z20 k_Z20 a5 jt b_Z2 k_Z2 jn     q J z O
 have jp:=ok_Z8 (P:=l.prog) (w:=w) (mg:=mg) (base:=base) ge a7 b_Z20 k_Z20 a5
 have jr:=ok_Z4 (P:=l.prog) (w:=w) (mg:=mg) (base:=base) gi jh b_Z13 k_Z13 j9 gb b_Z5 k_Z5 g8 be b_Z9 k_Z9 bd gc b_Z1 k_Z1 g9     gn q i O bf
 have js:=ok_Z3 (P:=l.prog) (w:=w) (mg:=mg) (base:=base) gj jd b_Z21 k_Z21 j5 gb b_Z5 k_Z5 g8 be b_Z9 k_Z9 bd c5 b_Z22 k_Z22 c1     i R J z
 have ju:=ok_Z0 (P:=l.prog) (w:=w) (mg:=mg) (base:=base) gm a7 b_Z20 k_Z20 a5 be b_Z9 k_Z9 bd gc b_Z1 k_Z1 g9     i
 have jb:=ok_Z24 (P:=l.prog) (w:=w) (mg:=mg) (base:=base) c9 jr b_Z4 k_Z4 jl ju b_Z0 k_Z0 jo ab a9 k_law_pots aa jg b_Z14 k_Z14 j8 jp b_Z8 k_Z8 jj js b_Z3 k_Z3 jm     J
 exact jb
theorem walk {l:PySem.W.OpenLaw}{q:Program}{i:List Str}{O:(Str->Option Value)->Heap->Prop}{J:World->Heap->Prop}{d:DefRec}{K:Params->PySem.W.Frag}(hn:l.most=some 63)(G:d.params.defaults=[])
  (j:∀ ns:List Int,ns.length<=63->m_Z24 [.lst (ns.map .int)]=some (.sh (.bl true)))
  (M:∀(w:World)(h:Heap),J w h->(K w.params).In h)
  (F:∀(w:World)(mg:Str->Option Value)(I:Addr)(h:Heap),(K w.params).In h->h.Ns mainGlobals mg->mg d.name=some (.ref I)->
   ∃ fd:FuncData,(∀(s:Shared)(u:Value),BindsTo s fd ⟨[u],[]⟩ [("script",u)])/\∀ base:Heap,(K w.params).In base->base.Ns mainGlobals mg->FnOk l.prog w (K w.params) mg base CX0 7 I fd ["script"] (spR (K w.params) 1 m_Z24)):
  PySem.W.WalkO q i O J l.row.toRowW d [] (fun f vs=>PySem.call f vs):=
 L2.walk_of (n:=63) (k:=7) (x:="script") (CX:=fun _=>CX0) (sp:=fun w=>spR (K w.params) 1 m_Z24) hn (by decide) G ⟨rfl,by decide,by decide⟩ M F (fun w H a ns L _ N=>sp_Z24 j H a ns L N _) fun _ _ _ _ _ z=>z
end Lw
open PySem PySem.W PyProof.Rows
set_option maxRecDepth 100000 in
set_option maxHeartbeats 0 in
theorem PySem.Challenge.cw_wavyrow_k30_whole_turns_and_waves_holds : PySem.Challenge.rw_wavyrow_k30_whole_turns_and_waves.Holds := by
 w_on;o_law;k_head;(case hw=>w_witness2)
 k_fill
 refine Lw.walk (l:=PySem.Challenge.rw_wavyrow_k30_whole_turns_and_waves) rfl rfl Lw.law_true (fun w h Y=>PySem.W.kIn_of Y) ?F
 case F=>
  intro w mg fa h KX G hmg
  refine' Lw.all_mk KX G hmg ?e_Z16 ?l_Z16 ?c_Z16 ?k_Z16 ?e_Z15 ?l_Z15 ?c_Z15 ?k_Z15 ?e_Z17 ?l_Z17 ?c_Z17 ?k_Z17 ?e_Z19 ?l_Z19 ?c_Z19 ?k_Z19 ?e_Z5 ?l_Z5 ?c_Z5 ?k_Z5 ?e_Z23 ?l_Z23 ?c_Z23 ?k_Z23 ?e_Z11 ?l_Z11 ?c_Z11 ?k_Z11 ?e_Z22 ?l_Z22 ?c_Z22 ?k_Z22 ?e_Z21 ?l_Z21 ?c_Z21 ?k_Z21 ?e_Z6 ?l_Z6 ?c_Z6 ?k_Z6 ?e_Z7 ?l_Z7 ?c_Z7 ?k_Z7 ?e_Z18 ?l_Z18 ?c_Z18 ?k_Z18 ?e_Z10 ?l_Z10 ?c_Z10 ?k_Z10 ?e_Z1 ?l_Z1 ?c_Z1 ?k_Z1 ?e_Z12 ?l_Z12 ?c_Z12 ?k_Z12 ?e_Z9 ?l_Z9 ?c_Z9 ?k_Z9 ?e_Z13 ?l_Z13 ?c_Z13 ?k_Z13 ?e_Z20 ?l_Z20 ?c_Z20 ?k_Z20 ?e_law_pots ?l_law_pots ?c_law_pots ?k_law_pots ?e_Z2 ?l_Z2 ?c_Z2 ?k_Z2 ?e_Z14 ?l_Z14 ?c_Z14 ?k_Z14 ?e_Z8 ?l_Z8 ?c_Z8 ?k_Z8 ?e_Z4 ?l_Z4 ?c_Z4 ?k_Z4 ?e_Z3 ?l_Z3 ?c_Z3 ?k_Z3 ?e_Z0 ?l_Z0 ?c_Z0 ?k_Z0 ?e_Z24 ?l_Z24 ?c_Z24 ?k_Z24    ?y_abs ?y_enumerate ?y_len ?y_max ?y_min ?y_range ?y_reversed ?y_sorted ?y_zip
  (case e_Z16=>k_is);(case l_Z16=>k_is);(case c_Z16=>k_is);(case k_Z16=>k_is)
  (case e_Z15=>k_is);(case l_Z15=>k_is);(case c_Z15=>k_is);(case k_Z15=>k_is)
  (case e_Z17=>k_is);(case l_Z17=>k_is);(case c_Z17=>k_is);(case k_Z17=>k_is)
  (case e_Z19=>k_is);(case l_Z19=>k_is);(case c_Z19=>k_is);(case k_Z19=>k_is)
  (case e_Z5=>k_is);(case l_Z5=>k_is);(case c_Z5=>k_is);(case k_Z5=>k_is)
  (case e_Z23=>k_is);(case l_Z23=>k_is);(case c_Z23=>k_is);(case k_Z23=>k_is)
  (case e_Z11=>k_is);(case l_Z11=>k_is);(case c_Z11=>k_is);(case k_Z11=>k_is)
  (case e_Z22=>k_is);(case l_Z22=>k_is);(case c_Z22=>k_is);(case k_Z22=>k_is)
  (case e_Z21=>k_is);(case l_Z21=>k_is);(case c_Z21=>k_is);(case k_Z21=>k_is)
  (case e_Z6=>k_is);(case l_Z6=>k_is);(case c_Z6=>k_is);(case k_Z6=>k_is)
  (case e_Z7=>k_is);(case l_Z7=>k_is);(case c_Z7=>k_is);(case k_Z7=>k_is)
  (case e_Z18=>k_is);(case l_Z18=>k_is);(case c_Z18=>k_is);(case k_Z18=>k_is)
  (case e_Z10=>k_is);(case l_Z10=>k_is);(case c_Z10=>k_is);(case k_Z10=>k_is)
  (case e_Z1=>k_is);(case l_Z1=>k_is);(case c_Z1=>k_is);(case k_Z1=>k_is)
  (case e_Z12=>k_is);(case l_Z12=>k_is);(case c_Z12=>k_is);(case k_Z12=>k_is)
  (case e_Z9=>k_is);(case l_Z9=>k_is);(case c_Z9=>k_is);(case k_Z9=>k_is)
  (case e_Z13=>k_is);(case l_Z13=>k_is);(case c_Z13=>k_is);(case k_Z13=>k_is)
  (case e_Z20=>k_is);(case l_Z20=>k_is);(case c_Z20=>k_is);(case k_Z20=>k_is)
  (case e_law_pots=>k_is);(case l_law_pots=>k_is);(case c_law_pots=>k_is);(case k_law_pots=>k_is)
  (case e_Z2=>k_is);(case l_Z2=>k_is);(case c_Z2=>k_is);(case k_Z2=>k_is)
  (case e_Z14=>k_is);(case l_Z14=>k_is);(case c_Z14=>k_is);(case k_Z14=>k_is)
  (case e_Z8=>k_is);(case l_Z8=>k_is);(case c_Z8=>k_is);(case k_Z8=>k_is)
  (case e_Z4=>k_is);(case l_Z4=>k_is);(case c_Z4=>k_is);(case k_Z4=>k_is)
  (case e_Z3=>k_is);(case l_Z3=>k_is);(case c_Z3=>k_is);(case k_Z3=>k_is)
  (case e_Z0=>k_is);(case l_Z0=>k_is);(case c_Z0=>k_is);(case k_Z0=>k_is)
  (case e_Z24=>k_is);(case l_Z24=>k_is);(case c_Z24=>k_is);(case k_Z24=>k_is)
  (case y_abs=>k_is)
  (case y_enumerate=>k_is)
  (case y_len=>k_is)
  (case y_max=>k_is)
  (case y_min=>k_is)
  (case y_range=>k_is)
  (case y_reversed=>k_is)
  (case y_sorted=>k_is)
  (case y_zip=>k_is)
